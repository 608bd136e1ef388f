"""Sheets that lie on a heap, and the missing ones of those that are to be bound."""

from sixdot.errors import NotMissing, StrangeSheet


def missing(wanted, lying):
    """Returns the ascending list of the places of the missing sheets."""
    found = []
    place = 0
    for number, sheet in enumerate(lying):
        # Each sheet stands at the first place that is left: so those with the greatest places are missing.
        while place < len(wanted) and wanted[place] != sheet:
            found.append(place)
            place += 1
        if place == len(wanted):
            raise StrangeSheet(number)
        place += 1
    return found + list(range(place, len(wanted)))


def filled(wanted, lying, more):
    """Returns the heap with further sheets put in, which are the missing ones in order."""
    due = [wanted[place] for place in missing(wanted, lying)]
    for number, sheet in enumerate(more):
        if number == len(due) or sheet != due[number]:
            raise NotMissing(number)
    if len(more) < len(due):
        raise NotMissing(len(more))
    return list(wanted)
