"""The words of points 13 to 16, taken as plainly as can be, to compare the program with them; and tables by chance."""

from sixdot.table import Rule, Table


def fits(rule, text, place):
    if not text[place:].startswith(rule.text):
        return False
    before = "^" if place == 0 else text[place - 1]
    rest = text[place + len(rule.text):]
    after = rest[0] if rest else "$"
    if rule.ahead is not None and before not in list(rule.ahead):
        return False
    return rule.behind is None or after in list(rule.behind)


def ways(table, text, place=0, mode=0):
    """Returns the list of all ways to write the text from the place on."""
    if place == len(text):
        return [[]]
    return [
        [number, *way]
        for number, rule in enumerate(table.rules)
        if rule.mode == mode and fits(rule, text, place)
        for way in ways(table, text, place + len(rule.text), rule.to)
    ]


def row(table, way):
    return [cell for number in way for cell in table.rules[number].cells]


def writings(table, text):
    """Returns the ascending list of all writings."""
    rows = []
    for way in ways(table, text):
        if row(table, way) not in rows:
            rows.append(row(table, way))
    return sorted(rows)


def best(table, text):
    """Returns the best writing and the best way, or None."""
    found = [(len(row(table, way)), row(table, way), way) for way in ways(table, text)]
    return min(found)[1:] if found else None


def accepts(table, text, numbers):
    """Returns True if numbers with the right lengths are accepted."""
    if any(number > 0 for number in numbers[-1]):
        return False
    return all(
        numbers[place][rule.mode] <= len(rule.cells) + numbers[place + len(rule.text)][rule.to]
        for place in range(len(text) + 1)
        for rule in table.rules
        if fits(rule, text, place)
    )


def made_table(chance, signs="ab", most_rules=9, cells=3):
    """Returns a small table, made by chance, in which much fits and much is ambiguous."""
    modes = chance.randint(1, 3)

    def neighbour(edge):
        free = signs + edge
        return None if chance.random() < 0.6 else "".join(chance.sample(free, chance.randint(1, len(free))))

    return Table(signs, modes, [
        Rule(
            chance.randrange(modes),
            "".join(chance.choices(signs, k=chance.choice([1, 1, 1, 2, 2, 3, 4]))),
            chance.choices(range(cells), k=chance.choice([1, 1, 2, 2, 3, 4])),
            chance.randrange(modes),
            ahead=neighbour("^"),
            behind=neighbour("$"),
        )
        for _ in range(chance.randint(1, most_rules))
    ])


def made_text(chance, signs="ab", most=7):
    return "".join(chance.choices(signs, k=chance.randint(0, most)))


def state_of(table):
    """Returns all that a table has, to tell if it changed."""
    rules = [(r.mode, r.text, tuple(r.cells), r.to, r.ahead, r.behind) for r in table.rules]
    return table.signs, table.modes, rules
