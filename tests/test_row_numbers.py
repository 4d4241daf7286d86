"""Point 6: the number of a row, and which row each number has."""

import unittest
from itertools import product

from ringbar.chests import many, number_in, row_at, rows
from ringbar.errors import BadChest, BadNumber, BadRow, TooMany
from tests.kinds import no_counts, no_numbers, no_rows
from tests.order import all_rows, reckoned, row_count, small_chests

BIG = [[9] * 12, [2] * 12, [2, 3, 4, 5, 6, 7, 8, 9, 2, 3, 4, 5], [9, 8, 7, 6, 5, 4, 3, 2, 9, 8, 7, 6], [8, 9] * 6]


class OrdinaryTest(unittest.TestCase):
    def test_one_drawer(self):
        for count in range(2, 10):
            for position in range(count):
                self.assertEqual(number_in([count], (position,)), position)
                self.assertEqual(row_at([count], position), (position,))

    def test_two_and_three_drawers(self):
        for counts, told in (
            ([3, 2], [(0, 0), (1, 0), (2, 0), (2, 1), (1, 1), (0, 1)]),
            ([2, 3], [(0, 0), (1, 0), (1, 1), (0, 1), (0, 2), (1, 2)]),
            ([2, 2, 2], [
                (0, 0, 0), (1, 0, 0), (1, 1, 0), (0, 1, 0), (0, 1, 1), (1, 1, 1), (1, 0, 1), (0, 0, 1),
            ]),
            ([2, 3, 2], [
                (0, 0, 0), (1, 0, 0), (1, 1, 0), (0, 1, 0), (0, 2, 0), (1, 2, 0),
                (1, 2, 1), (0, 2, 1), (0, 1, 1), (1, 1, 1), (1, 0, 1), (0, 0, 1),
            ]),
        ):
            for number, row in enumerate(told):
                self.assertEqual(number_in(counts, row), number)
                self.assertEqual(row_at(counts, number), row)
            self.assertEqual(rows(counts), told)


class SmallChestsTest(unittest.TestCase):
    def test_each_gives_the_other_by_the_reckoning(self):
        for counts in small_chests(72):
            for row in all_rows(counts):
                number = number_in(counts, row)
                self.assertEqual(number, reckoned(counts, row))
                self.assertEqual(row_at(counts, number), row)

    def test_each_row_comes_once_from_all_positions_0_on(self):
        for counts in small_chests(72):
            told = [row_at(counts, number) for number in range(row_count(counts))]
            self.assertEqual(told[0], (0,) * len(counts))
            self.assertEqual(sorted(told), all_rows(counts))

    def test_neighbours_are_one_change_apart(self):
        for counts in small_chests(72):
            told = [row_at(counts, number) for number in range(row_count(counts))]
            for row, beside in zip(told, told[1:]):
                self.assertEqual(sum(abs(here - there) for here, there in zip(row, beside)), 1)


class TwelveDrawersTest(unittest.TestCase):
    def test_the_first_numbers(self):
        for counts in BIG:
            self.assertEqual(row_at(counts, 0), (0,) * 12)
            for number in range(counts[0]):
                self.assertEqual(row_at(counts, number), (number,) + (0,) * 11)
            self.assertEqual(row_at(counts, counts[0]), (counts[0] - 1, 1) + (0,) * 10)

    def test_the_last_numbers(self):
        self.assertEqual(row_at([9] * 12, 9 ** 12 - 1), (8,) * 12)
        self.assertEqual(row_at([9] * 12, 9 ** 12 - 2), (7,) + (8,) * 11)
        self.assertEqual(row_at([2] * 12, 4095), (0,) * 11 + (1,))
        for counts in BIG:
            last = row_count(counts) - 1
            self.assertEqual(row_at(counts, last)[11], counts[11] - 1)
            for number in range(last - 100, last + 1):
                self.assertEqual(reckoned(counts, row_at(counts, number)), number)
                self.assertEqual(number_in(counts, row_at(counts, number)), number)

    def test_some_between(self):
        for counts in BIG:
            last = row_count(counts) - 1
            for number in list(range(0, last, last // 211)) + [last // 2, last // 3, last // 9]:
                row = row_at(counts, number)
                self.assertEqual(reckoned(counts, row), number)
                self.assertEqual(number_in(counts, row), number)

    def test_each_drawer_alone(self):
        for counts in BIG:
            for drawer in range(12):
                row = (0,) * drawer + (counts[drawer] - 1,) + (0,) * (11 - drawer)
                self.assertEqual(number_in(counts, row), reckoned(counts, row))
                self.assertEqual(row_at(counts, reckoned(counts, row)), row)


class RowsTest(unittest.TestCase):
    def test_small_chests(self):
        for counts in small_chests(500):
            told = rows(counts)
            self.assertEqual(len(told), row_count(counts))
            self.assertEqual([reckoned(counts, row) for row in told], list(range(len(told))))

    def test_about_the_most_that_is_told(self):
        for counts in ([5, 5, 5, 4], [4, 5, 5, 5], [2, 2, 5, 5, 5], [7, 8, 8], [9, 5, 9], [2] * 8):
            self.assertEqual(len(rows(counts)), many(counts))
        self.assertEqual(many([5, 5, 5, 4]), 500)
        for counts in ([7, 8, 9], [2] * 9, [9, 8, 7], [9] * 12, [2] * 12, [8, 9, 7], [3, 8, 3, 7], [2, 4, 7, 9]):
            self.assertGreater(many(counts), 500)
            with self.assertRaises(TooMany):
                rows(counts)

    def test_just_the_chests_of_more_than_500_are_refused(self):
        for counts in product(range(2, 10), repeat=4):
            if 440 <= row_count(counts) <= 560:
                if row_count(counts) <= 500:
                    self.assertEqual(len(rows(list(counts))), row_count(counts))
                else:
                    with self.assertRaises(TooMany):
                        rows(list(counts))

    def test_counts_are_refused_first(self):
        for thing in ([9] * 13, [9] * 11 + [10], [1] + [9] * 11, (9,) * 12, [9] * 11 + [True]):
            with self.assertRaises(BadChest):
                rows(thing)


class RefusalsTest(unittest.TestCase):
    def test_what_is_no_row(self):
        for counts in ([2], [9], [2, 3], [5, 4, 3, 2], *BIG):
            for thing in no_rows(counts):
                with self.assertRaises(BadRow):
                    number_in(counts, thing)

    def test_what_is_no_number(self):
        for counts in ([2], [9], [2, 3], [5, 4, 3, 2], *BIG):
            total = row_count(counts)
            for number in [-1, -2, total, total + 1, total * 9, 10 ** 400, -10 ** 400, *no_numbers()]:
                with self.assertRaises(BadNumber):
                    row_at(counts, number)

    def test_counts_are_refused_first(self):
        for thing in no_counts():
            for row in ((), (0,), (0, 0), [0], None, True):
                with self.assertRaises(BadChest):
                    number_in(thing, row)
            for number in (-1, 0, 1, 10 ** 400, None, True, "0"):
                with self.assertRaises(BadChest):
                    row_at(thing, number)


if __name__ == "__main__":
    unittest.main()
