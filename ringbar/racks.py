"""Racks: chests side by side, their deeds, and the ways that are told in turn."""

from ringbar.chests import moved, need_counts, need_row, number_in, way_in
from ringbar.errors import BadChest, BadRow, NoMove
from ringbar.kinds import is_list, is_tuple, is_whole

MOST_CHESTS = 5


class Rack:
    """Chests side by side, each standing at a row."""

    def __init__(self, chests):
        if not is_list(chests, 1, MOST_CHESTS):
            raise BadChest("a rack has a list of 1 to 5 chests")
        for counts in chests:
            need_counts(counts)
        self._chests = [list(counts) for counts in chests]
        self._standing = [(0,) * len(counts) for counts in chests]
        self._done = []

    def rows(self):
        """The list of the rows that the chests stand at."""
        return list(self._standing)

    def numbers(self):
        """The list of the numbers of these rows."""
        return [number_in(counts, row) for counts, row in zip(self._chests, self._standing)]

    def deeds(self):
        """The list of the deeds that were done and not taken back, in order."""
        return list(self._done)

    def do(self, deed):
        """Do a deed."""
        if not is_tuple(deed, 3, 3) or not is_whole(deed[0], 0, len(self._chests) - 1):
            raise NoMove("a deed is a tuple of a chest, a drawer and what it changes by")
        chest, drawer, by = deed
        self._move(chest, drawer, by)
        self._done.append((chest, drawer, by))

    def back(self):
        """Take back the last deed."""
        if not self._done:
            raise NoMove("there is no deed to take back")
        chest, drawer, by = self._done.pop()
        self._move(chest, drawer, -by)

    def way_to(self, rows, most):
        """The deeds of the way to other rows, told in turn, the first most of them."""
        # way_in refuses most, and the rows of all chests come ahead of that.
        self._need_rows(rows)
        ways = [
            way_in(counts, here, there, most)
            for counts, here, there in zip(self._chests, self._standing, rows)
        ]
        return _in_turn(ways)[:most]

    def _need_rows(self, rows):
        if not is_list(rows, len(self._chests), len(self._chests)):
            raise BadRow("the rows are a list of a row for each chest")
        for counts, row in zip(self._chests, rows):
            need_row(counts, row)

    def _move(self, chest, drawer, by):
        self._standing[chest] = moved(self._chests[chest], self._standing[chest], (drawer, by))


def _in_turn(ways):
    """The deeds of the chests' ways: the first move of each, then the second ones, and so on."""
    deeds = []
    for turn in range(max([len(steps) for steps in ways])):
        for chest, steps in enumerate(ways):
            if turn < len(steps):
                drawer, by = steps[turn]
                deeds.append((chest, drawer, by))
    return deeds
