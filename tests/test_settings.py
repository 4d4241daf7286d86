"""Points 2 and 3: what a setting is, which rings may be changed, and what is behind that."""

import unittest
from itertools import product

from ringbar.bars import changeable, changed, need_setting
from ringbar.errors import BadSetting, NoMove
from tests.kinds import flipped, may_change, no_numbers, no_settings

FORTY = [
    (0,) * 40,
    (1,) * 40,
    (0,) * 39 + (1,),
    (0,) * 38 + (1, 0),
    (0,) * 38 + (1, 1),
    (1,) + (0,) * 39,
    (0,) * 20 + (1,) * 20,
    (0, 1) * 20,
]


class NeedSettingTest(unittest.TestCase):
    def test_settings_are_taken(self):
        for rings in range(1, 7):
            for setting in product((0, 1), repeat=rings):
                self.assertIs(need_setting(setting), None)
        for setting in FORTY:
            self.assertIs(need_setting(setting), None)

    def test_what_is_none_is_refused(self):
        for thing in no_settings():
            with self.assertRaises(BadSetting):
                need_setting(thing)

    def test_objects_of_derived_classes_are_refused(self):
        class Cells(tuple):
            pass

        class Cell(int):
            pass

        for thing in (Cells((0, 1)), (Cell(0), 1), (0, Cell(1))):
            with self.assertRaises(BadSetting):
                need_setting(thing)


class ChangeableTest(unittest.TestCase):
    def test_ordinary_settings(self):
        self.assertEqual(changeable((1, 1, 0)), [0, 1])
        self.assertEqual(changeable((0, 1, 0, 1)), [0, 2])
        self.assertEqual(changeable((0, 0, 1, 1)), [0, 3])

    def test_one_ring(self):
        self.assertEqual(changeable((0,)), [0])
        self.assertEqual(changeable((1,)), [0])

    def test_forty_rings(self):
        told = [[0], [0, 1], [0], [0, 39], [0, 39], [0, 1], [0, 21], [0, 2]]
        self.assertEqual([changeable(setting) for setting in FORTY], told)

    def test_all_rings_off(self):
        for rings in range(1, 41):
            self.assertEqual(changeable((0,) * rings), [0])

    def test_the_last_ring_alone_on(self):
        for rings in range(1, 41):
            self.assertEqual(changeable((0,) * (rings - 1) + (1,)), [0])

    def test_small_bars_are_as_the_point_says(self):
        for rings in range(1, 9):
            for setting in product((0, 1), repeat=rings):
                told = [ring for ring in range(rings) if may_change(setting, ring)]
                self.assertEqual(changeable(setting), told)

    def test_what_is_no_setting_is_refused(self):
        for thing in no_settings():
            with self.assertRaises(BadSetting):
                changeable(thing)


class ChangedTest(unittest.TestCase):
    def test_ordinary_settings(self):
        self.assertEqual(changed((0, 1, 0), 0), (1, 1, 0))
        self.assertEqual(changed((1, 1, 0), 0), (0, 1, 0))
        self.assertEqual(changed((0, 1, 0), 2), (0, 1, 1))
        self.assertEqual(changed((0, 1, 1), 2), (0, 1, 0))

    def test_one_ring(self):
        self.assertEqual(changed((0,), 0), (1,))
        self.assertEqual(changed((1,), 0), (0,))

    def test_forty_rings(self):
        self.assertEqual(changed((0,) * 38 + (1, 0), 39), (0,) * 38 + (1, 1))
        self.assertEqual(changed((0,) * 39 + (1,), 0), (1,) + (0,) * 38 + (1,))
        for setting in FORTY:
            for ring in range(40):
                if may_change(setting, ring):
                    self.assertEqual(changed(setting, ring), flipped(setting, ring))
                else:
                    with self.assertRaises(NoMove):
                        changed(setting, ring)

    def test_small_bars_ring_by_ring(self):
        for rings in range(1, 7):
            for setting in product((0, 1), repeat=rings):
                for ring in range(-rings - 2, rings + 3):
                    if 0 <= ring < rings and may_change(setting, ring):
                        self.assertEqual(changed(setting, ring), flipped(setting, ring))
                    else:
                        with self.assertRaises(NoMove):
                            changed(setting, ring)

    def test_the_ring_behind_the_last_one_is_none(self):
        for rings in range(1, 41):
            with self.assertRaises(NoMove):
                changed((0,) * (rings - 1) + (1,), rings)

    def test_far_numbers_are_no_rings(self):
        for ring in (-1, -2, 40, 41, 10 ** 400, -10 ** 400):
            for setting in [(1, 0), *FORTY]:
                with self.assertRaises(NoMove):
                    changed(setting, ring)

    def test_things_of_other_kinds_are_no_rings(self):
        for thing in no_numbers():
            for setting in ((0,), (1, 0), (1, 1, 1), (0,) * 40):
                with self.assertRaises(NoMove):
                    changed(setting, thing)

    def test_what_is_no_setting_is_refused_first(self):
        for thing in no_settings():
            for ring in (0, 1, 5, -1, None, "0"):
                with self.assertRaises(BadSetting):
                    changed(thing, ring)


if __name__ == "__main__":
    unittest.main()
