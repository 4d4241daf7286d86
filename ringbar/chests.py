"""Chests of drawers: their rows, the one order that these lie in, and the ways along it."""

from ringbar.bars import need_most, numbers_passed
from ringbar.errors import BadChest, BadNumber, BadRow, NoMove, TooMany
from ringbar.kinds import is_list, is_tuple, is_whole

MOST_DRAWERS = 12
FEWEST_POSITIONS = 2
MOST_POSITIONS = 9
MOST_ROWS = 500


def need_counts(counts):
    """Refuse what are no counts with BadChest."""
    if not is_list(counts, 1, MOST_DRAWERS):
        raise BadChest("counts are a list of a number for each of 1 to 12 drawers")
    for count in counts:
        if not is_whole(count, FEWEST_POSITIONS, MOST_POSITIONS):
            raise BadChest("a drawer has 2 to 9 positions")


def many(counts):
    """How many rows the chest has."""
    need_counts(counts)
    total = 1
    for count in counts:
        total = total * count
    return total


def need_row(counts, row):
    """Refuse with BadChest what are no counts, and with BadRow what is no row of them."""
    need_counts(counts)
    if not is_tuple(row, len(counts), len(counts)):
        raise BadRow("a row is a tuple of a number for each drawer")
    for count, position in zip(counts, row):
        if not is_whole(position, 0, count - 1):
            raise BadRow("a position is a number from 0 to one less than the drawer's count")


def number_in(counts, row):
    """The number of a row."""
    need_row(counts, row)
    number = 0
    for count, position in reversed(list(zip(counts, row))):
        number = number * count + _facing(count, position, number)
    return number


def row_at(counts, number):
    """The row of a number."""
    total = many(counts)
    if not is_whole(number, 0, total - 1):
        raise BadNumber("no row of this chest has this number")
    row = []
    for count in counts:
        number, rest = divmod(number, count)
        row.append(_facing(count, rest, number))
    return tuple(row)


def moves(counts, row):
    """The rising list of the moves of a row."""
    number = number_in(counts, row)
    total = many(counts)
    beside = [near for near in (number - 1, number + 1) if 0 <= near < total]
    return sorted([_move_between(row, row_at(counts, near)) for near in beside])


def moved(counts, row, move):
    """The row behind a move."""
    allowed = moves(counts, row)
    if not _may_be_move(move) or move not in allowed:
        raise NoMove("this is no move of the row")
    drawer, by = move
    return row[:drawer] + (row[drawer] + by,) + row[drawer + 1:]


def rows(counts):
    """The list of all rows, by their numbers."""
    total = many(counts)
    if total > MOST_ROWS:
        raise TooMany("the chest has more than 500 rows")
    return [row_at(counts, number) for number in range(total)]


def way_in(counts, one, other, most):
    """The moves of the shortest way from one row to another, the first most of them."""
    here = number_in(counts, one)
    there = number_in(counts, other)
    need_most(most)
    passed = [row_at(counts, number) for number in numbers_passed(here, there, most)]
    return [_move_between(row, beside) for row, beside in zip(passed, passed[1:])]


def _facing(count, place, above):
    """What a drawer's position adds to the number, or the position that adds so much."""
    # Each time the number of the drawers above grows by one, this drawer goes its way back:
    # where that number is odd, from the last position to the first.
    if above & 1:
        return count - 1 - place
    return place


def _move_between(row, beside):
    """The move that leads from a row to the one beside it."""
    drawer = [k for k in range(len(row)) if row[k] != beside[k]][0]
    return (drawer, beside[drawer] - row[drawer])


def _may_be_move(move):
    """Whether move is a tuple of a drawer and what it changes by, in any chest."""
    # 1.0 and True equal 1, so comparing with the moves of a row would let them through.
    return is_tuple(move, 2, 2) and is_whole(move[0], 0, MOST_DRAWERS - 1) and is_whole(move[1], -1, 1)
