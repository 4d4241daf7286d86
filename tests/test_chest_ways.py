"""Point 8, its part about chests: ways, and the shortest one."""

import unittest

from ringbar.chests import number_in, row_at, way_in
from ringbar.errors import BadChest, BadNumber, BadRow
from tests.kinds import no_counts, no_mosts, no_rows
from tests.order import all_rows, allowed_moves, behind, fewest_moves, reckoned, row_count, small_chests

BIG = [[9] * 12, [2] * 12, [2, 3, 4, 5, 6, 7, 8, 9, 2, 3, 4, 5], [9] * 11 + [2]]


class WayInTest(unittest.TestCase):
    def walk(self, counts, row, told):
        for move in told:
            self.assertIs(type(move), tuple)
            self.assertIn(move, allowed_moves(counts, row))
            row = behind(row, *move)
        return row

    def test_both_directions(self):
        there = [(0, 1), (0, 1), (1, 1), (0, -1), (0, -1)]
        back = [(0, 1), (0, 1), (1, -1), (0, -1), (0, -1)]
        self.assertEqual(way_in([3, 2], (0, 0), (0, 1), 10), there)
        self.assertEqual(way_in([3, 2], (0, 1), (0, 0), 10), back)
        self.assertEqual(way_in([3, 2], (1, 0), (1, 1), 10), there[1:4])
        self.assertEqual(way_in([3, 2], (1, 1), (1, 0), 10), back[1:4])
        self.assertEqual(way_in([9], (2,), (5,), 10), [(0, 1)] * 3)
        self.assertEqual(way_in([9], (5,), (2,), 10), [(0, -1)] * 3)

    def test_no_length(self):
        for counts in small_chests(20) + BIG:
            for row in ((0,) * len(counts), tuple(count - 1 for count in counts)):
                for most in (0, 1, 1000):
                    self.assertEqual(way_in(counts, row, row, most), [])

    def test_the_first_most_of_them(self):
        for one, other in (((0, 0), (0, 1)), ((0, 1), (0, 0)), ((2, 0), (1, 1)), ((1, 1), (2, 0))):
            whole = way_in([3, 2], one, other, 1000)
            for most in range(9):
                self.assertEqual(way_in([3, 2], one, other, most), whole[:most])

    def test_small_chests_have_no_shorter_way(self):
        for counts in small_chests(24):
            for one in all_rows(counts):
                told = fewest_moves(counts, one)
                self.assertEqual(len(told), row_count(counts))
                for other, fewest in told.items():
                    found = way_in(counts, one, other, 1000)
                    self.assertEqual(len(found), fewest)
                    self.assertEqual(fewest, abs(reckoned(counts, one) - reckoned(counts, other)))
                    self.assertEqual(self.walk(counts, one, found), other)

    def test_ways_about_the_most_that_is_told(self):
        for counts in BIG:
            low = row_at(counts, 77)
            for length in (998, 999, 1000, 1001, 1002):
                high = row_at(counts, 77 + length)
                for one, other in ((low, high), (high, low)):
                    found = way_in(counts, one, other, 1000)
                    self.assertEqual(len(found), min(length, 1000))
                    left = length - len(found)
                    last = self.walk(counts, one, found)
                    self.assertEqual(abs(reckoned(counts, last) - reckoned(counts, other)), left)

    def test_rows_that_are_very_far_apart(self):
        for counts in BIG:
            last = row_count(counts) - 1
            for here, there in ((0, last), (last, 0), (last // 2, last), (last // 2, 0), (last // 3, last // 3 * 2)):
                one, other = row_at(counts, here), row_at(counts, there)
                for most in (0, 1, 2, 999, 1000):
                    found = way_in(counts, one, other, most)
                    self.assertEqual(len(found), most)
                    by = most if here < there else -most
                    self.assertEqual(number_in(counts, self.walk(counts, one, found)), here + by)


class RefusalsTest(unittest.TestCase):
    def test_what_are_no_counts(self):
        for thing in no_counts():
            for one, other, most in (((0,), (1,), 5), ((0, 0), None, -1), (None, (0,), None), ([0], [0], True)):
                with self.assertRaises(BadChest):
                    way_in(thing, one, other, most)

    def test_what_is_no_row(self):
        for counts in ([2], [2, 3], [9] * 12):
            first = (0,) * len(counts)
            for thing in no_rows(counts):
                for one, other in ((thing, first), (first, thing), (thing, thing)):
                    for most in (5, -1, 1001, None, True):
                        with self.assertRaises(BadRow):
                            way_in(counts, one, other, most)

    def test_most_that_is_no_number(self):
        for counts in ([2], [3, 2], [9] * 12):
            first, last = row_at(counts, 0), row_at(counts, row_count(counts) - 1)
            for most in no_mosts():
                for one, other in ((first, last), (last, first), (first, first)):
                    with self.assertRaises(BadNumber):
                        way_in(counts, one, other, most)


if __name__ == "__main__":
    unittest.main()
