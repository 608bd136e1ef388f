"""The words of points 54 to 62, taken as plainly as can be, to compare the program with them."""

import itertools

import plain


def is_short(wanted, lying):
    """Returns True if the list is made by leaving out some of those wanted."""
    rest = iter(wanted)
    return all(any(sheet == other for other in rest) for sheet in lying)


def missing(wanted, lying):
    """Returns the places of the missing sheets, or the first strange place as a tuple."""
    if not is_short(wanted, lying):
        return (min(k for k in range(len(lying) + 1) if not is_short(wanted, lying[:k])) - 1,)
    found = [
        left for left in itertools.combinations(range(len(wanted)), len(wanted) - len(lying))
        if [sheet for place, sheet in enumerate(wanted) if place not in left] == lying
    ]
    # Those with the greatest places: none of the others has a greater one anywhere.
    best = max(found)
    assert all(one >= other for left in found for one, other in zip(best, left))
    return list(best)


def agree(first, second, row):
    texts, others = plain.texts(first, row), plain.texts(second, row)
    return (not texts and not others) or (len(texts) == 1 and texts == others)


def spots_behind(table, spots, cell):
    return tuple(sorted({further for spot in spots for further in plain.next_spots(table, spot, cell)}))


def parts(first, second, pair):
    return any(plain.can_end(first, spot) for spot in pair[0]) != any(plain.can_end(second, spot) for spot in pair[1])


def next_crossed(first, second, pair, lead):
    """Returns the list of the tuples (pair, lead) to which a crossed pair goes on."""
    found = []
    for cell in range(64):
        for one in plain.next_spots(first, pair[0], cell):
            for other in plain.next_spots(second, pair[1], cell):
                further = None
                if lead is not None:
                    side, part = lead
                    text = (part if side == 0 else "") + plain.added(first, one)
                    other_text = (part if side == 1 else "") + plain.added(second, other)
                    if text.startswith(other_text):
                        further = (0, text[len(other_text):])
                    elif other_text.startswith(text):
                        further = (1, other_text[len(text):])
                found.append(((one, other), further))
    return found


def accepts_cross_paper(first, second, paper):
    """Returns True if a cross paper is accepted, in the words of point 59."""
    lists, kept, hopeless = paper
    known, others = plain.spots(first), plain.spots(second)
    for spots, other_spots in lists:
        if list(spots) != sorted(set(spots)) or list(other_spots) != sorted(set(other_spots)):
            return False
        if not set(spots) <= set(known) or not set(other_spots) <= set(others):
            return False
    pairs = [(one, other) for one, other, _ in kept] + hopeless
    if any(one not in known or other not in others for one, other in pairs):
        return False
    if any(side not in (0, 1) or (side == 1 and part == "") for _, _, (side, part) in kept):
        return False
    return accepts_lists(first, second, lists) and accepts_pairs(first, second, kept, hopeless)


def accepts_lists(first, second, lists):
    if (((-1, 0),), ((-1, 0),)) not in lists:
        return False
    for pair in lists:
        if parts(first, second, pair):
            return False
        for cell in range(64):
            further = (spots_behind(first, pair[0], cell), spots_behind(second, pair[1], cell))
            if further != ((), ()) and further not in lists:
                return False
    return True


def accepts_pairs(first, second, kept, hopeless):
    if ((-1, 0), (-1, 0), (0, "")) not in kept:
        return False
    for one, other, lead in kept:
        if plain.can_end(first, one) and plain.can_end(second, other) and lead != (0, ""):
            return False
        for pair, further in next_crossed(first, second, (one, other), lead):
            if pair not in hopeless and (further is None or (*pair, further) not in kept):
                return False
    for one, other in hopeless:
        if plain.can_end(first, one) and plain.can_end(second, other):
            return False
        if any(pair not in hopeless for pair, _ in next_crossed(first, second, (one, other), None)):
            return False
    return True


def useful_rules(table):
    """Returns the numbers of the rules that stand in some course, in the words of point 17."""
    numbers = range(len(table.rules))

    def can_follow(one, other):
        before, after = table.rules[one], table.rules[other]
        if before.to != after.mode or (after.ahead is not None and before.text[-1] not in after.ahead):
            return False
        return before.behind is None or after.text[0] in before.behind

    follows = {one: [other for other in numbers if can_follow(one, other)] for one in numbers}
    begun = {k for k in numbers if table.rules[k].mode == 0 and (table.rules[k].ahead is None or "^" in table.rules[k].ahead)}
    ended = {k for k in numbers if table.rules[k].behind is None or "$" in table.rules[k].behind}
    for _ in numbers:
        begun |= {other for one in begun for other in follows[one]}
        ended |= {one for one in numbers if ended.intersection(follows[one])}
    return begun & ended
