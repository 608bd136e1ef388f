"""The words of the document, taken as plainly as can be, to compare the program with them; and tables by chance."""

from sixdot.table import Rule, Table


def fits(rule, text, place):
    if not text[place:].startswith(rule.text):
        return False
    before = "^" if place == 0 else text[place - 1]
    rest = text[place + len(rule.text):]
    after = rest[0] if rest else "$"
    if rule.ahead is not None and before not in list(rule.ahead):
        return False
    return rule.behind is None or after in list(rule.behind)


def ways(table, text, place=0, mode=0):
    """Returns the list of all ways to write the text from the place on."""
    if place == len(text):
        return [[]]
    return [
        [number, *way]
        for number, rule in enumerate(table.rules)
        if rule.mode == mode and fits(rule, text, place)
        for way in ways(table, text, place + len(rule.text), rule.to)
    ]


def row(table, way):
    return [cell for number in way for cell in table.rules[number].cells]


def writings(table, text):
    """Returns the ascending list of all writings."""
    rows = []
    for way in ways(table, text):
        if row(table, way) not in rows:
            rows.append(row(table, way))
    return sorted(rows)


def best(table, text):
    """Returns the best writing and the best way, or None."""
    found = [(len(row(table, way)), row(table, way), way) for way in ways(table, text)]
    return min(found)[1:] if found else None


def accepts(table, text, numbers):
    """Returns True if numbers with the right lengths are accepted."""
    if any(number > 0 for number in numbers[-1]):
        return False
    return all(
        numbers[place][rule.mode] <= len(rule.cells) + numbers[place + len(rule.text)][rule.to]
        for place in range(len(text) + 1)
        for rule in table.rules
        if fits(rule, text, place)
    )


def made_table(chance, signs="ab", most_rules=9, cells=3):
    """Returns a small table, made by chance, in which much fits and much is ambiguous."""
    modes = chance.randint(1, 3)

    def neighbour(edge):
        free = signs + edge
        return None if chance.random() < 0.6 else "".join(chance.sample(free, chance.randint(1, len(free))))

    return Table(signs, modes, [
        Rule(
            chance.randrange(modes),
            "".join(chance.choices(signs, k=chance.choice([1, 1, 1, 2, 2, 3, 4]))),
            chance.choices(range(cells), k=chance.choice([1, 1, 2, 2, 3, 4])),
            chance.randrange(modes),
            ahead=neighbour("^"),
            behind=neighbour("$"),
        )
        for _ in range(chance.randint(1, most_rules))
    ])


def made_text(chance, signs="ab", most=7):
    return "".join(chance.choices(signs, k=chance.randint(0, most)))


def state_of(table):
    """Returns all that a table has, to tell if it changed."""
    rules = [(r.mode, r.text, tuple(r.cells), r.to, r.ahead, r.behind) for r in table.rules]
    return table.signs, table.modes, rules


def courses(table, row, mode=0):
    """Returns the list of all courses of a row whose first rule has the mode, before their neighbours are looked at."""
    if not row:
        return [[]]
    return [
        [number, *course]
        for number, rule in enumerate(table.rules)
        if rule.mode == mode and row[:len(rule.cells)] == rule.cells
        for course in courses(table, row[len(rule.cells):], rule.to)
    ]


def has_neighbours(table, course):
    """Returns True if each rule of a course has the neighbours that it asks for in the text of the course."""
    text = "".join(table.rules[number].text for number in course)
    place = 0
    for number in course:
        if not fits(table.rules[number], text, place):
            return False
        place += len(table.rules[number].text)
    return True


def texts(table, row):
    """Returns the ascending list of the texts of a row."""
    found = [course for course in courses(table, row) if has_neighbours(table, course)]
    return sorted({"".join(table.rules[number].text for number in course) for course in found})


def spots(table):
    return [(-1, 0)] + [(r, k + 1) for r, rule in enumerate(table.rules) for k in range(len(rule.cells))]


def next_spots(table, spot, cell):
    """Returns the spots to which a spot goes on, in the words of point 18."""
    number, read = spot
    if spot != (-1, 0) and read < len(table.rules[number].cells):
        return [(number, read + 1)] if table.rules[number].cells[read] == cell else []
    found = []
    for r, rule in enumerate(table.rules):
        mode, last, behind = (0, "^", None)
        if spot != (-1, 0):
            mode, last, behind = table.rules[number].to, table.rules[number].text[-1], table.rules[number].behind
        if rule.cells[0] != cell or rule.mode != mode:
            continue
        if rule.ahead is not None and last not in rule.ahead:
            continue
        if behind is not None and rule.text[0] not in behind:
            continue
        found.append((r, 1))
    return found


def can_end(table, spot):
    if spot == (-1, 0):
        return True
    rule = table.rules[spot[0]]
    return spot[1] == len(rule.cells) and (rule.behind is None or "$" in rule.behind)


def spots_behind(table, row):
    """Returns the ascending list of the spots of a reader that was given a row."""
    found = [(-1, 0)]
    for cell in row:
        found = sorted({further for spot in found for further in next_spots(table, spot, cell)})
    return found


def added(table, spot):
    return table.rules[spot[0]].text if spot[1] == 1 else ""


def next_pairs(table, pair, lead):
    """Returns the list of the tuples (cell, pair, lead), in the words of point 21."""
    found = []
    for cell in range(64):
        for first in next_spots(table, pair[0], cell):
            for second in next_spots(table, pair[1], cell):
                further = None
                if lead is not None:
                    side, part = lead
                    one = (part if side == 0 else "") + added(table, first)
                    other = (part if side == 1 else "") + added(table, second)
                    if one[:len(other)] == other:
                        further = (0, one[len(other):])
                    elif other[:len(one)] == one:
                        further = (1, other[len(one):])
                found.append((cell, (first, second), further))
    return found


def is_hopeful(table, pair):
    met = [pair]
    for one in met:
        if can_end(table, one[0]) and can_end(table, one[1]):
            return True
        for _, further, _ in next_pairs(table, one, None):
            if further not in met:
                met.append(further)
    return False


def accepts_paper(table, paper):
    """Returns True if a paper is accepted, in the words of point 23."""
    kept, hopeless = paper
    known = spots(table)
    for first, second, (side, part) in kept:
        if first not in known or second not in known or side not in (0, 1) or (side == 1 and not part):
            return False
    if any(first not in known or second not in known for first, second in hopeless):
        return False
    if ((-1, 0), (-1, 0), (0, "")) not in kept:
        return False
    for first, second, lead in kept:
        if can_end(table, first) and can_end(table, second) and lead != (0, ""):
            return False
        for _, pair, further in next_pairs(table, (first, second), lead):
            if pair not in hopeless and (further is None or (*pair, further) not in kept):
                return False
    for pair in hopeless:
        if can_end(table, pair[0]) and can_end(table, pair[1]):
            return False
        if any(further not in hopeless for _, further, _ in next_pairs(table, pair, None)):
            return False
    return True


def rows(cells, most):
    """Returns all rows of these cells with at most so many, shorter ones first, those of a length ascending."""
    found = [[]]
    level = [[]]
    for _ in range(most):
        level = [row + [cell] for row in level for cell in cells]
        found.extend(level)
    return found
