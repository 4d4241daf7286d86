"""Point 7: which moves a row has, and what is behind each."""

import unittest

from ringbar.chests import moved, moves, number_in, row_at
from ringbar.errors import BadChest, BadRow, NoMove
from tests.kinds import no_counts, no_numbers, no_rows, no_tuples
from tests.order import all_rows, allowed_moves, behind, row_count, small_chests

BIG = [[9] * 12, [2] * 12, [2, 3, 4, 5, 6, 7, 8, 9, 2, 3, 4, 5]]


def some_rows(counts):
    """Rows from all parts of the order of a big chest."""
    last = row_count(counts) - 1
    numbers = [0, 1, 2, 7, 8, 9, 10, 80, 81, 82, last // 3, last // 2, last - 9, last - 1, last]
    return [row_at(counts, number) for number in numbers]


class MovesTest(unittest.TestCase):
    def test_ordinary_rows(self):
        self.assertEqual(moves([3, 2], (0, 0)), [(0, 1)])
        self.assertEqual(moves([3, 2], (1, 0)), [(0, -1), (0, 1)])
        self.assertEqual(moves([3, 2], (2, 0)), [(0, -1), (1, 1)])
        self.assertEqual(moves([3, 2], (2, 1)), [(0, -1), (1, -1)])
        self.assertEqual(moves([3, 2], (0, 1)), [(0, 1)])
        self.assertEqual(moves([2, 3, 2], (1, 2, 0)), [(0, -1), (2, 1)])

    def test_one_drawer(self):
        for count in range(2, 10):
            self.assertEqual(moves([count], (0,)), [(0, 1)])
            self.assertEqual(moves([count], (count - 1,)), [(0, -1)])
            for position in range(1, count - 1):
                self.assertEqual(moves([count], (position,)), [(0, -1), (0, 1)])

    def test_small_chests_are_as_the_point_says(self):
        for counts in small_chests(72):
            for row in all_rows(counts):
                told = moves(counts, row)
                self.assertEqual(told, allowed_moves(counts, row))
                self.assertIn(len(told), (1, 2))
                for move in told:
                    self.assertIs(type(move), tuple)
                    self.assertEqual([type(part) for part in move], [int, int])

    def test_just_the_first_and_the_last_row_have_one(self):
        for counts in small_chests(72):
            total = row_count(counts)
            for number in range(total):
                told = 1 if number in (0, total - 1) else 2
                self.assertEqual(len(moves(counts, row_at(counts, number))), told)

    def test_twelve_drawers(self):
        for counts in BIG:
            for row in some_rows(counts):
                self.assertEqual(moves(counts, row), allowed_moves(counts, row))
        self.assertEqual(moves([9] * 12, (8,) * 12), [(0, -1)])
        self.assertEqual(moves([9] * 12, (8,) * 11 + (0,)), [(0, -1), (11, 1)])


class MovedTest(unittest.TestCase):
    def test_ordinary_rows(self):
        self.assertEqual(moved([3, 2], (0, 0), (0, 1)), (1, 0))
        self.assertEqual(moved([3, 2], (2, 0), (1, 1)), (2, 1))
        self.assertEqual(moved([3, 2], (2, 0), (0, -1)), (1, 0))
        self.assertEqual(moved([9] * 12, (8,) * 11 + (0,), (11, 1)), (8,) * 11 + (1,))

    def test_each_change_of_a_drawer(self):
        for counts in small_chests(40):
            for row in all_rows(counts):
                told = allowed_moves(counts, row)
                for drawer in range(-len(counts) - 1, len(counts) + 2):
                    for by in range(-3, 4):
                        self.see(counts, row, (drawer, by), told)

    def test_each_change_on_twelve_drawers(self):
        for counts in BIG:
            for row in some_rows(counts):
                told = allowed_moves(counts, row)
                for drawer in range(-13, 14):
                    for by in (-9, -2, -1, 0, 1, 2, 9):
                        self.see(counts, row, (drawer, by), told)

    def see(self, counts, row, move, told):
        if move in told:
            self.assertEqual(moved(counts, row, move), behind(row, *move))
        else:
            with self.assertRaises(NoMove):
                moved(counts, row, move)

    def test_the_number_grows_or_falls_by_one(self):
        for counts in small_chests(60):
            for row in all_rows(counts):
                for move in moves(counts, row):
                    apart = number_in(counts, moved(counts, row, move)) - number_in(counts, row)
                    self.assertIn(apart, (-1, 1))

    def test_things_of_other_kinds_are_no_moves(self):
        for counts, row in (([2], (0,)), ([3, 2], (1, 0)), ([3, 2], (2, 1)), ([9] * 12, (8,) * 12)):
            for thing in no_tuples():
                with self.assertRaises(NoMove):
                    moved(counts, row, thing)

    def test_lists_of_moves_parts_are_no_moves(self):
        for counts, row in (([2], (0,)), ([3, 2], (1, 0)), ([3, 2], (2, 1)), ([9] * 12, (8,) * 12)):
            for move in moves(counts, row):
                for thing in (list(move), str(move), (move,), move + (0,), move + move, move[:1], (*move, move)):
                    with self.assertRaises(NoMove):
                        moved(counts, row, thing)

    def test_tuples_of_other_kinds_and_lengths_are_no_moves(self):
        for counts, row in (([2], (0,)), ([2], (1,)), ([3, 2], (1, 0)), ([3, 2], (2, 0)), ([9] * 12, (0,) * 12)):
            for thing in ((), (0,), (1,), (0, 1, 0), (0, 0, 1), (0, 1, 1), (0,) * 500):
                with self.assertRaises(NoMove):
                    moved(counts, row, thing)
            for part in no_numbers() + [10 ** 400, -10 ** 400]:
                for thing in ((part, 1), (part, -1), (0, part), (1, part), (part, part), (part,)):
                    with self.assertRaises(NoMove):
                        moved(counts, row, thing)

    def test_parts_that_equal_a_moves_parts_are_none(self):
        for thing in ((0.0, 1), (0, 1.0), (False, 1), (0, True), (False, True)):
            with self.assertRaises(NoMove):
                moved([2, 2], (0, 0), thing)
        for thing in ((True, 1), (1, True), (1.0, 1), (True, True)):
            with self.assertRaises(NoMove):
                moved([2, 2], (1, 0), thing)

    def test_objects_of_derived_classes_are_no_moves(self):
        class Move(tuple):
            pass

        class Part(int):
            pass

        for thing in (Move((0, 1)), (Part(0), 1), (0, Part(1))):
            with self.assertRaises(NoMove):
                moved([2, 2], (0, 0), thing)


class RefusalsTest(unittest.TestCase):
    def test_what_are_no_counts_is_refused_first(self):
        for thing in no_counts():
            for row in ((0,), (0, 0), [0], None, True, ()):
                with self.assertRaises(BadChest):
                    moves(thing, row)
                for move in ((0, 1), (0, 2), None, True):
                    with self.assertRaises(BadChest):
                        moved(thing, row, move)

    def test_what_is_no_row_is_refused_then(self):
        for counts in ([2], [9], [2, 3], [5, 4, 3, 2], *BIG):
            for thing in no_rows(counts):
                with self.assertRaises(BadRow):
                    moves(counts, thing)
                for move in ((0, 1), (0, 2), None, True):
                    with self.assertRaises(BadRow):
                        moved(counts, thing, move)


if __name__ == "__main__":
    unittest.main()
