"""How points 5 to 7 read, and the small chests that they are tried over."""

from itertools import product


def small_chests(most_rows):
    """All counts of one to four drawers with not more rows than that, and some of more drawers."""
    found = [[2] * 5, [2] * 6, [3] * 5, [2, 3, 2, 3, 2], [2, 2, 3, 2, 2, 2]]
    for drawers in range(1, 5):
        found += [list(counts) for counts in product(range(2, 10), repeat=drawers)]
    return [counts for counts in found if row_count(counts) <= most_rows]


def row_count(counts):
    """How many rows there are, by the words of point 5."""
    total = 1
    for count in counts:
        total *= count
    return total


def all_rows(counts):
    """All rows of a chest, in any order."""
    return list(product(*[range(count) for count in counts]))


def is_row(counts, row):
    """What point 5 says of a row of numbers."""
    return len(row) == len(counts) and all(0 <= row[k] < counts[k] for k in range(len(row)))


def reckoned(counts, row):
    """The number of a row, by the words of point 6."""
    number = 0
    for drawer in range(len(counts) - 1, -1, -1):
        odd = number % 2 == 1
        number *= counts[drawer]
        if odd:
            number += counts[drawer] - 1 - row[drawer]
        else:
            number += row[drawer]
    return number


def behind(row, drawer, by):
    """The row with the position of a drawer changed."""
    cells = list(row)
    cells[drawer] += by
    return tuple(cells)


def allowed_moves(counts, row):
    """The rising list of the moves of a row, by the words of point 7."""
    found = []
    for drawer in range(len(counts)):
        for by in (-1, 1):
            beside = behind(row, drawer, by)
            if is_row(counts, beside) and abs(reckoned(counts, beside) - reckoned(counts, row)) == 1:
                found.append((drawer, by))
    return found


def fewest_moves(counts, one):
    """The fewest moves from a row to each other one, by search."""
    told = {one: 0}
    edge = [one]
    while edge:
        beyond = []
        for row in edge:
            for drawer, by in allowed_moves(counts, row):
                beside = behind(row, drawer, by)
                if beside not in told:
                    told[beside] = told[row] + 1
                    beyond.append(beside)
        edge = beyond
    return told
