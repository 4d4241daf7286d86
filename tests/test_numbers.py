"""Point 4: the one way through all settings, and a setting's number."""

import unittest

from ringbar.bars import changeable, changed, number_of, setting_at
from ringbar.errors import BadBar, BadNumber, BadSetting
from tests.kinds import no_numbers, no_settings, whole_way

LAST = 2 ** 40 - 1


class SmallBarsTest(unittest.TestCase):
    def test_the_way_comes_to_every_setting_once(self):
        for rings in range(1, 11):
            found = whole_way(rings)
            self.assertEqual(len(found), 2 ** rings)
            self.assertEqual(len(set(found)), 2 ** rings)
            self.assertEqual(found[0], (0,) * rings)
            self.assertEqual(found[-1], (0,) * (rings - 1) + (1,))

    def test_number_and_setting_give_each_other_along_it(self):
        for rings in range(1, 11):
            for number, setting in enumerate(whole_way(rings)):
                self.assertEqual(number_of(setting), number)
                self.assertEqual(setting_at(rings, number), setting)

    def test_each_change_makes_the_number_one_more_or_less(self):
        for rings in range(1, 8):
            for number in range(2 ** rings):
                setting = setting_at(rings, number)
                behind = sorted(number_of(changed(setting, ring)) for ring in changeable(setting))
                self.assertEqual(behind, [near for near in (number - 1, number + 1) if 0 <= near < 2 ** rings])


class FortyRingsTest(unittest.TestCase):
    def test_the_first_ones(self):
        for number, cells in enumerate(whole_way(5)):
            setting = cells + (0,) * 35
            self.assertEqual(number_of(setting), number)
            self.assertEqual(setting_at(40, number), setting)

    def test_the_last_ones(self):
        # From the last ring alone on, the way runs back with the other rings as from all off.
        for number, cells in enumerate(whole_way(5)):
            setting = cells + (0,) * 34 + (1,)
            self.assertEqual(number_of(setting), LAST - number)
            self.assertEqual(setting_at(40, LAST - number), setting)

    def test_some_between(self):
        for ring in range(40):
            alone = (0,) * ring + (1,) + (0,) * (39 - ring)
            self.assertEqual(number_of(alone), 2 ** (ring + 1) - 1)
            self.assertEqual(setting_at(40, 2 ** (ring + 1) - 1), alone)
        self.assertEqual(setting_at(40, 2 ** 39), (0,) * 38 + (1, 1))
        self.assertEqual(number_of((1,) * 40), sum(2 ** k for k in range(1, 40, 2)))

    def test_each_gives_the_other(self):
        for number in list(range(0, LAST, LAST // 997)) + [LAST - 1, LAST]:
            self.assertEqual(number_of(setting_at(40, number)), number)


class RefusalsTest(unittest.TestCase):
    def test_what_is_no_setting(self):
        for thing in no_settings():
            with self.assertRaises(BadSetting):
                number_of(thing)

    def test_what_is_no_bar(self):
        for rings in [0, -1, 41, 42, 10 ** 400, -10 ** 400, *no_numbers()]:
            for number in (0, 1, -1, 10 ** 400, None, True, "0"):
                with self.assertRaises(BadBar):
                    setting_at(rings, number)

    def test_what_is_no_number(self):
        for rings in range(1, 41):
            for number in [-1, -2, 2 ** rings, 2 ** rings + 1, 2 ** 41, 10 ** 400, -10 ** 400, *no_numbers()]:
                with self.assertRaises(BadNumber):
                    setting_at(rings, number)


if __name__ == "__main__":
    unittest.main()
