"""Heaps, and presses that press a list of sheets onto one, whatever stops or jams them."""

from sixdot.errors import InvalidJournal

# What is done one after the other with the sheet that is in the press.
IN_PRESS = ("feed", "front", "turn", "back")


class Heap:
    """Sheets that lie on each other, and a counter of all that were dropped."""

    def __init__(self):
        self._lying = []
        self._counter = 0

    def drop(self, sheet):
        """Drops a sheet on it."""
        self._lying.append(sheet)
        self._counter += 1

    def fall(self):
        """Lets the topmost sheet fall away; returns it, or None if there is none."""
        return self._lying.pop() if self._lying else None

    def sheets(self):
        """Returns the list of the sheets, the lowest one first."""
        return list(self._lying)

    def dropped(self):
        """Returns the counter."""
        return self._counter


def note_of(number):
    """Returns the line of a journal for the sheet with the number, with its newline."""
    return f"done {number}\n"


def noted_in(journal):
    """Returns how many sheets the complete lines of a text note, or None if they are none of a journal."""
    # What stands behind the last newline is no complete line.
    lines = journal.split("\n")[:-1]
    if journal[:journal.rfind("\n") + 1] != "".join([note_of(number) for number in range(len(lines))]):
        return None
    return len(lines)


class Press:
    """Presses sheets, one after the other, and drops them on a heap."""

    def __init__(self, sheets, heap, *, journal=""):
        noted = noted_in(journal)
        if noted is None or noted > heap.dropped() or noted > len(sheets):
            raise InvalidJournal()
        self._wanted = list(sheets)
        self._heap = heap
        self._noted = noted
        # How many of the things IN_PRESS have been done with the sheet that is in the press; 0 if none is.
        self._done = 0

    def step(self):
        """Does a step and returns its word."""
        if self._done == 0 and self._noted == len(self._wanted):
            return "over"
        # A sheet that is on the heap is not pressed again: only its note is lacking.
        if self._done == 0 and self._heap.dropped() > self._noted:
            self._noted += 1
            return "note"
        if self._done == len(IN_PRESS):
            self._heap.drop(self._wanted[self._noted])
            self._done = 0
            return "drop"
        self._done += 1
        return IN_PRESS[self._done - 1]

    def jam(self):
        """Lets it jam; returns True if a sheet was spoilt."""
        is_spoilt = self._done > 0
        self._done = 0
        return is_spoilt

    def journal(self):
        """Returns the text of the journal."""
        return "".join([note_of(number) for number in range(self._noted)])

    def inside(self):
        """Returns None, or a pair of the number of the sheet in the press and the last thing that was done with it."""
        return (self._noted, IN_PRESS[self._done - 1]) if self._done > 0 else None
