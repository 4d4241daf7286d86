"""Point 7, its last part: a chest of drawers with 2 positions each is a bar."""

import unittest
from itertools import product

from ringbar import bars, chests


class TwosTest(unittest.TestCase):
    def test_rows_are_settings_with_their_numbers(self):
        for many in range(1, 13):
            counts = [2] * many
            self.assertEqual(chests.many(counts), 2 ** many)
            for number in range(0, 2 ** many, 1 if many < 9 else 7):
                setting = bars.setting_at(many, number)
                self.assertEqual(chests.row_at(counts, number), setting)
                self.assertEqual(chests.number_in(counts, setting), bars.number_of(setting))
            self.assertIs(chests.need_row(counts, bars.setting_at(many, 2 ** many - 1)), None)
            self.assertIs(bars.need_setting(chests.row_at(counts, 2 ** many - 1)), None)

    def test_all_rows_are_all_settings(self):
        for many in range(1, 9):
            told = [bars.setting_at(many, number) for number in range(2 ** many)]
            self.assertEqual(chests.rows([2] * many), told)

    def test_moves_change_the_rings_that_may_be_changed(self):
        for many in range(1, 9):
            for setting in product((0, 1), repeat=many):
                moves = chests.moves([2] * many, setting)
                self.assertEqual([drawer for drawer, by in moves], bars.changeable(setting))
                for drawer, by in moves:
                    self.assertEqual(by, -1 if setting[drawer] else 1)
                    behind = chests.moved([2] * many, setting, (drawer, by))
                    self.assertEqual(behind, bars.changed(setting, drawer))

    def test_ways_are_the_same(self):
        for many, numbers in ((1, [0, 1]), (3, range(8)), (5, range(0, 32, 3)), (12, [0, 1, 700, 2048, 4000, 4095])):
            for here, there in product(numbers, repeat=2):
                one, other = bars.setting_at(many, here), bars.setting_at(many, there)
                for most in (0, 1, 3, 1000):
                    told = chests.way_in([2] * many, one, other, most)
                    self.assertEqual([drawer for drawer, by in told], bars.way(one, other, most))


if __name__ == "__main__":
    unittest.main()
