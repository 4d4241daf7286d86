"""Point 8, its part about settings: ways, and the shortest one."""

import unittest
from itertools import product

from ringbar.bars import apart, changed, number_of, setting_at, way
from ringbar.errors import BadNumber, BadSetting
from tests.kinds import flipped, may_change, no_numbers, no_settings

LAST = 2 ** 40 - 1


def fewest(one):
    """The fewest changes from a setting to each other one, by search."""
    told = {one: 0}
    edge = [one]
    while edge:
        beyond = []
        for setting in edge:
            for ring in range(len(setting)):
                behind = flipped(setting, ring)
                if may_change(setting, ring) and behind not in told:
                    told[behind] = told[setting] + 1
                    beyond.append(behind)
        edge = beyond
    return told


class WayTest(unittest.TestCase):
    def walk(self, setting, rings):
        for ring in rings:
            self.assertTrue(may_change(setting, ring))
            setting = changed(setting, ring)
        return setting

    def test_both_directions(self):
        self.assertEqual(way((0, 0, 0), (0, 0, 1), 10), [0, 1, 0, 2, 0, 1, 0])
        self.assertEqual(way((0, 0, 1), (0, 0, 0), 10), [0, 1, 0, 2, 0, 1, 0])
        self.assertEqual(way((1, 1, 0), (1, 1, 1), 10), [0, 2, 0])
        self.assertEqual(way((1, 1, 1), (1, 1, 0), 10), [0, 2, 0])
        self.assertEqual(way((0, 0, 0), (0, 1, 1), 10), [0, 1, 0, 2])
        self.assertEqual(way((0, 1, 1), (0, 0, 0), 10), [2, 0, 1, 0])
        self.assertEqual(way((0,), (1,), 10), [0])
        self.assertEqual(way((1,), (0,), 10), [0])
        self.assertEqual(apart((0, 0, 0), (0, 1, 1)), 4)
        self.assertEqual(apart((0, 1, 1), (0, 0, 0)), 4)

    def test_no_length(self):
        for setting in ((0,), (1,), (0, 1, 1), (0,) * 40, (1,) * 40):
            self.assertEqual(apart(setting, setting), 0)
            for most in (0, 1, 1000):
                self.assertEqual(way(setting, setting, most), [])

    def test_the_first_most_of_them(self):
        whole = [0, 1, 0, 2, 0, 1, 0]
        for most in range(12):
            self.assertEqual(way((0, 0, 0), (0, 0, 1), most), whole[:most])
            self.assertEqual(way((0, 0, 1), (0, 0, 0), most), whole[:most])
        self.assertEqual(way((0, 0, 0), (0, 0, 1), 1000), whole)
        self.assertEqual(way((1, 1, 0), (1, 1, 1), 2), [0, 2])

    def test_small_bars_have_no_shorter_way(self):
        for rings in range(1, 6):
            for one in product((0, 1), repeat=rings):
                told = fewest(one)
                self.assertEqual(len(told), 2 ** rings)
                for other, changes in told.items():
                    self.assertEqual(apart(one, other), changes)
                    found = way(one, other, 1000)
                    self.assertEqual(len(found), changes)
                    self.assertEqual(self.walk(one, found), other)

    def test_ways_about_the_most_that_is_told(self):
        for rings in (10, 11, 25, 40):
            low = setting_at(rings, 7)
            for length in (998, 999, 1000, 1001, 1002):
                high = setting_at(rings, 7 + length)
                for one, other, by in ((low, high, 1), (high, low, -1)):
                    found = way(one, other, 1000)
                    self.assertEqual(apart(one, other), length)
                    self.assertEqual(len(found), min(length, 1000))
                    self.assertEqual(number_of(self.walk(one, found)), number_of(one) + by * len(found))

    def test_settings_that_are_very_far_apart(self):
        off, last = (0,) * 40, (0,) * 39 + (1,)
        middle = setting_at(40, 2 ** 39 - 300)
        for one, other, length in (
            (off, last, LAST),
            (last, off, -LAST),
            (middle, last, 2 ** 39 + 299),
            (last, middle, -2 ** 39 - 299),
            (setting_at(40, 2 ** 39 + 300), off, -2 ** 39 - 300),
            (setting_at(40, 10 ** 12), setting_at(40, 10 ** 11), 10 ** 11 - 10 ** 12),
        ):
            self.assertEqual(apart(one, other), abs(length))
            for most in (0, 1, 2, 999, 1000):
                found = way(one, other, most)
                self.assertEqual(len(found), most)
                by = most if length > 0 else -most
                self.assertEqual(number_of(self.walk(one, found)), number_of(one) + by)


class RefusalsTest(unittest.TestCase):
    def test_what_is_no_setting(self):
        for thing in no_settings():
            for one, other in ((thing, (0, 1)), ((0, 1), thing), (thing, thing)):
                with self.assertRaises(BadSetting):
                    apart(one, other)
                with self.assertRaises(BadSetting):
                    way(one, other, 5)

    def test_settings_of_unlike_many_rings(self):
        for one, other in (((0,), (0, 0)), ((0, 1, 0), (0, 1)), ((0,) * 39, (0,) * 40), ((1,), (1,) + (0,) * 39)):
            for first, second in ((one, other), (other, one)):
                with self.assertRaises(BadSetting):
                    apart(first, second)
                with self.assertRaises(BadSetting):
                    way(first, second, 5)

    def test_most_that_is_no_number(self):
        for most in [-1, -2, 1001, 1002, 10 ** 400, -10 ** 400, *no_numbers()]:
            for one, other in (((0, 0), (0, 1)), ((0, 1), (0, 0)), ((0, 1), (0, 1))):
                with self.assertRaises(BadNumber):
                    way(one, other, most)

    def test_settings_are_refused_ahead_of_most(self):
        for most in (-1, 1001, None, True, "5"):
            for one, other in (([0], (0,)), ((0,), [0]), ((0,), (0, 0)), ((), ()), ((2,), (0,))):
                with self.assertRaises(BadSetting):
                    way(one, other, most)


if __name__ == "__main__":
    unittest.main()
