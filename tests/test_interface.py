"""The names, arguments and places of the interface of bars, and that nothing handed in or told is kept."""

import inspect
import unittest

from ringbar import bars
from ringbar.errors import BadSetting, RingError

ARGUMENTS = {
    "need_setting": ["setting"],
    "changeable": ["setting"],
    "changed": ["setting", "ring"],
    "number_of": ["setting"],
    "setting_at": ["rings", "number"],
    "apart": ["one", "other"],
    "way": ["one", "other", "most"],
}


class InterfaceTest(unittest.TestCase):
    def test_the_bounds(self):
        self.assertEqual((bars.MOST_RINGS, bars.MOST_TOLD), (40, 1000))
        self.assertEqual((type(bars.MOST_RINGS), type(bars.MOST_TOLD)), (int, int))

    def test_each_function_is_defined_there_with_its_arguments(self):
        for name, arguments in ARGUMENTS.items():
            function = getattr(bars, name)
            self.assertEqual(list(inspect.signature(function).parameters), arguments)
            self.assertEqual(function.__module__, "ringbar.bars")

    def test_arguments_may_be_named(self):
        self.assertEqual(bars.changed(setting=(0, 0), ring=0), (1, 0))
        self.assertEqual(bars.setting_at(rings=2, number=3), (0, 1))
        self.assertEqual(bars.apart(one=(0, 0), other=(0, 1)), 3)
        self.assertEqual(bars.way(one=(0, 0), other=(0, 1), most=2), [0, 1])

    def test_the_kinds_that_are_told(self):
        self.assertIs(bars.need_setting((0, 1)), None)
        self.assertIs(type(bars.changeable((0, 1))), list)
        self.assertIs(type(bars.changed((0, 1), 0)), tuple)
        self.assertIs(type(bars.number_of((0, 1))), int)
        self.assertIs(type(bars.setting_at(2, 3)), tuple)
        self.assertIs(type(bars.apart((0, 1), (0, 0))), int)
        self.assertIs(type(bars.way((0, 1), (0, 0), 5)), list)
        told = bars.setting_at(3, 5) + bars.changed((0, 1), 0) + tuple(bars.way((0, 1), (0, 0), 5))
        self.assertEqual({type(cell) for cell in told}, {int})


class OwnTest(unittest.TestCase):
    def test_a_told_list_is_the_askers_own(self):
        for ask, told in [
            (lambda: bars.changeable((0, 1, 0)), [0, 2]),
            (lambda: bars.changeable((0, 0, 1)), [0]),
            (lambda: bars.way((0, 0, 0), (0, 1, 0), 10), [0, 1, 0]),
            (lambda: bars.way((0, 0), (0, 0), 10), []),
        ]:
            first = ask()
            self.assertEqual(first, told)
            first.insert(0, 99)
            later = ask()
            self.assertEqual(later, told)
            later.clear()
            self.assertEqual(first, [99, *told])
            self.assertEqual(ask(), told)

    def test_what_is_handed_in_stays(self):
        one, other = (0, 1, 1), (1, 0, 1)
        bars.need_setting(one)
        bars.changeable(one)
        bars.changed(one, 0)
        bars.number_of(one)
        bars.apart(one, other)
        bars.way(one, other, 10)
        self.assertEqual((one, other), ((0, 1, 1), (1, 0, 1)))

    def test_what_is_refused_stays(self):
        cells = [0, 1]
        table = {0: 1}
        steps = iter((0, 1))
        for thing in (cells, table, steps, (cells,)):
            for ask in (bars.need_setting, bars.changeable, bars.number_of):
                with self.assertRaises(BadSetting):
                    ask(thing)
            for ask in (bars.apart, lambda one, other: bars.way(one, other, 1)):
                with self.assertRaises(BadSetting):
                    ask((0, 1), thing)
                with self.assertRaises(BadSetting):
                    ask(thing, (0, 1))
        rings = [0]
        with self.assertRaises(RingError):
            bars.changed((0, 1), rings)
        with self.assertRaises(RingError):
            bars.way((0, 1), (1, 1), rings)
        with self.assertRaises(RingError):
            bars.setting_at(rings, 0)
        self.assertEqual((cells, table, list(steps), rings), ([0, 1], {0: 1}, [0, 1], [0]))

    def test_a_list_that_is_changed_later_changes_nothing_told(self):
        cells = [0, 1, 0]
        setting = tuple(cells)
        behind = bars.changed(setting, 2)
        cells[0] = 1
        self.assertEqual(behind, (0, 1, 1))


if __name__ == "__main__":
    unittest.main()
