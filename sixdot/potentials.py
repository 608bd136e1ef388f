"""Numbers at the places of a text, which show that no writing has fewer cells."""

from sixdot.writing import cells_of_way, fitting, is_way


def number_of_mode(row, mode):
    """Returns the number of a mode, given the list of those of its place; 0 for a mode that the table has not."""
    return row[mode] if 0 <= mode < len(row) else 0


def number_at(table, text, place, mode, numbers, unwritten):
    """Returns the greatest number that a place and a mode can have, given those of the places behind it.

    It is at least `unwritten` if nothing leads from there to the end.
    """
    found = [unwritten]
    for number in fitting(table, text, place, mode):
        rule = table.rules[number]
        found.append(len(rule.cells) + number_of_mode(numbers[place + len(rule.text)], rule.to))
    return min(found)


def make_numbers(table, text):
    """Returns numbers for the text that are accepted."""
    # Above the number of the cells of any writing: so places from which nothing leads to the end lower no other one.
    unwritten = max([len(rule.cells) for rule in table.rules], default=0) * len(text) + 1
    numbers = [[0] * table.modes for _ in range(len(text) + 1)]
    for place in range(len(text) - 1, -1, -1):
        numbers[place] = [number_at(table, text, place, mode, numbers, unwritten) for mode in range(table.modes)]
    return numbers


def have_lengths(table, text, numbers):
    """Returns True if there is a number for each place and each mode, and no more."""
    return len(numbers) == len(text) + 1 and all([len(row) == max(table.modes, 0) for row in numbers])


def holds_at(table, text, numbers, place, mode):
    """Returns True if no rule that fits at the place in the mode shows that its number is too great."""
    for number in fitting(table, text, place, mode):
        rule = table.rules[number]
        if numbers[place][mode] > len(rule.cells) + number_of_mode(numbers[place + len(rule.text)], rule.to):
            return False
    return True


def accepts_numbers(table, text, numbers):
    """Returns True if the numbers are accepted."""
    if not have_lengths(table, text, numbers) or any([number > 0 for number in numbers[-1]]):
        return False
    for place in range(len(text)):
        for mode in range(table.modes):
            if not holds_at(table, text, numbers, place, mode):
                return False
    return True


def shows_best(table, text, numbers, way):
    """Returns True if the numbers are accepted, the list is a way, and it has as many cells as they tell."""
    return (
        accepts_numbers(table, text, numbers)
        and is_way(table, text, way)
        and len(cells_of_way(table, way)) == number_of_mode(numbers[0], 0)
    )
