"""The names, arguments and places of the interface, and that nothing handed in or told is kept."""

import ast
import inspect
import pathlib
import unittest
from importlib import import_module

from ringbar import bars, chests, racks
from ringbar.errors import BadChest, BadRow, BadSetting, RingError

ARGUMENTS = {
    "bars": {
        "need_setting": ["setting"],
        "changeable": ["setting"],
        "changed": ["setting", "ring"],
        "number_of": ["setting"],
        "setting_at": ["rings", "number"],
        "apart": ["one", "other"],
        "way": ["one", "other", "most"],
    },
    "chests": {
        "need_counts": ["counts"],
        "many": ["counts"],
        "need_row": ["counts", "row"],
        "number_in": ["counts", "row"],
        "row_at": ["counts", "number"],
        "moves": ["counts", "row"],
        "moved": ["counts", "row", "move"],
        "rows": ["counts"],
        "way_in": ["counts", "one", "other", "most"],
    },
    "notes": {
        "shown": ["setting"],
        "read": ["text"],
        "shown_row": ["counts", "row"],
        "read_row": ["counts", "text"],
    },
}
RACK = {
    "__init__": ["self", "chests"],
    "rows": ["self"],
    "numbers": ["self"],
    "deeds": ["self"],
    "do": ["self", "deed"],
    "back": ["self"],
    "way_to": ["self", "rows", "most"],
}


class InterfaceTest(unittest.TestCase):
    def test_the_bounds(self):
        self.assertEqual((bars.MOST_RINGS, bars.MOST_TOLD), (40, 1000))
        self.assertEqual((type(bars.MOST_RINGS), type(bars.MOST_TOLD)), (int, int))

    def test_each_function_is_defined_there_with_its_arguments(self):
        for file, functions in ARGUMENTS.items():
            module = import_module("ringbar." + file)
            for name, arguments in functions.items():
                function = getattr(module, name)
                self.assertTrue(inspect.isfunction(function))
                self.assertEqual(list(inspect.signature(function).parameters), arguments)
                self.assertEqual(function.__module__, "ringbar." + file)

    def test_each_method_is_defined_in_the_class_itself(self):
        self.assertEqual(racks.Rack.__module__, "ringbar.racks")
        for name, arguments in RACK.items():
            self.assertTrue(inspect.isfunction(racks.Rack.__dict__[name]))
            self.assertEqual(list(inspect.signature(racks.Rack.__dict__[name]).parameters), arguments)

    def test_arguments_may_be_named(self):
        self.assertEqual(bars.changed(setting=(0, 0), ring=0), (1, 0))
        self.assertEqual(bars.setting_at(rings=2, number=3), (0, 1))
        self.assertEqual(bars.apart(one=(0, 0), other=(0, 1)), 3)
        self.assertEqual(bars.way(one=(0, 0), other=(0, 1), most=2), [0, 1])

    def test_the_kinds_that_are_told(self):
        self.assertIs(bars.need_setting((0, 1)), None)
        self.assertIs(type(bars.changeable((0, 1))), list)
        self.assertIs(type(bars.changed((0, 1), 0)), tuple)
        self.assertIs(type(bars.number_of((0, 1))), int)
        self.assertIs(type(bars.setting_at(2, 3)), tuple)
        self.assertIs(type(bars.apart((0, 1), (0, 0))), int)
        self.assertIs(type(bars.way((0, 1), (0, 0), 5)), list)
        told = bars.setting_at(3, 5) + bars.changed((0, 1), 0) + tuple(bars.way((0, 1), (0, 0), 5))
        self.assertEqual({type(cell) for cell in told}, {int})

    def test_arguments_of_chests_racks_and_notes_may_be_named(self):
        self.assertEqual(chests.moved(counts=[3], row=(0,), move=(0, 1)), (1,))
        self.assertEqual(chests.row_at(counts=[3], number=2), (2,))
        self.assertEqual(chests.way_in(counts=[3], one=(0,), other=(2,), most=1), [(0, 1)])
        rack = racks.Rack(chests=[[3]])
        self.assertIs(rack.do(deed=(0, 0, 1)), None)
        self.assertEqual(rack.way_to(rows=[(2,)], most=5), [(0, 0, 1)])
        self.assertEqual(import_module("ringbar.notes").read_row(counts=[3], text="2"), (2,))

    def test_the_kinds_that_chests_tell(self):
        self.assertIs(chests.need_counts([2, 3]), None)
        self.assertIs(chests.need_row([2, 3], (1, 2)), None)
        self.assertIs(type(chests.many([2, 3])), int)
        self.assertIs(type(chests.number_in([2, 3], (1, 2))), int)
        self.assertIs(type(chests.row_at([2, 3], 4)), tuple)
        self.assertIs(type(chests.moves([2, 3], (1, 1))), list)
        self.assertIs(type(chests.moved([2, 3], (0, 0), (0, 1))), tuple)
        self.assertIs(type(chests.rows([2, 3])), list)
        self.assertEqual({type(row) for row in chests.rows([2, 3])}, {tuple})
        self.assertIs(type(chests.way_in([2, 3], (0, 0), (1, 1), 5)), list)
        told = [*chests.rows([2, 3]), *chests.moves([2, 3], (1, 1)), chests.moved([2, 3], (0, 0), (0, 1))]
        self.assertEqual({type(part) for row in told for part in row}, {int})


class PlainTest(unittest.TestCase):
    def test_the_package_asks_for_nothing_outside_it(self):
        # Point 1: no clock, no chance, no files; so there is nothing to import, open or ask for.
        for file in pathlib.Path(bars.__file__).parent.glob("*.py"):
            for node in ast.walk(ast.parse(file.read_text("utf-8"))):
                self.assertNotIsInstance(node, ast.Import)
                if isinstance(node, ast.ImportFrom):
                    self.assertEqual(node.module.split(".")[0], "ringbar")
                if isinstance(node, ast.Name):
                    self.assertNotIn(node.id, ("open", "input", "print", "id", "hash", "exec", "eval", "__import__"))


class OwnTest(unittest.TestCase):
    def test_a_told_list_is_the_askers_own(self):
        for ask, told in [
            (lambda: bars.changeable((0, 1, 0)), [0, 2]),
            (lambda: bars.changeable((0, 0, 1)), [0]),
            (lambda: bars.way((0, 0, 0), (0, 1, 0), 10), [0, 1, 0]),
            (lambda: bars.way((0, 0), (0, 0), 10), []),
        ]:
            first = ask()
            self.assertEqual(first, told)
            first.insert(0, 99)
            later = ask()
            self.assertEqual(later, told)
            later.clear()
            self.assertEqual(first, [99, *told])
            self.assertEqual(ask(), told)

    def test_what_is_handed_in_stays(self):
        one, other = (0, 1, 1), (1, 0, 1)
        bars.need_setting(one)
        bars.changeable(one)
        bars.changed(one, 0)
        bars.number_of(one)
        bars.apart(one, other)
        bars.way(one, other, 10)
        self.assertEqual((one, other), ((0, 1, 1), (1, 0, 1)))

    def test_what_is_refused_stays(self):
        cells = [0, 1]
        table = {0: 1}
        steps = iter((0, 1))
        for thing in (cells, table, steps, (cells,)):
            for ask in (bars.need_setting, bars.changeable, bars.number_of):
                with self.assertRaises(BadSetting):
                    ask(thing)
            for ask in (bars.apart, lambda one, other: bars.way(one, other, 1)):
                with self.assertRaises(BadSetting):
                    ask((0, 1), thing)
                with self.assertRaises(BadSetting):
                    ask(thing, (0, 1))
        rings = [0]
        with self.assertRaises(RingError):
            bars.changed((0, 1), rings)
        with self.assertRaises(RingError):
            bars.way((0, 1), (1, 1), rings)
        with self.assertRaises(RingError):
            bars.setting_at(rings, 0)
        self.assertEqual((cells, table, list(steps), rings), ([0, 1], {0: 1}, [0, 1], [0]))

    def test_a_list_that_is_changed_later_changes_nothing_told(self):
        cells = [0, 1, 0]
        setting = tuple(cells)
        behind = bars.changed(setting, 2)
        cells[0] = 1
        self.assertEqual(behind, (0, 1, 1))


class ChestsOwnTest(unittest.TestCase):
    def test_a_told_list_is_the_askers_own(self):
        counts = [3, 2]
        for ask, told in [
            (lambda: chests.moves(counts, (1, 0)), [(0, -1), (0, 1)]),
            (lambda: chests.rows(counts), [(0, 0), (1, 0), (2, 0), (2, 1), (1, 1), (0, 1)]),
            (lambda: chests.way_in(counts, (0, 0), (2, 1), 9), [(0, 1), (0, 1), (1, 1)]),
            (lambda: chests.way_in(counts, (0, 0), (0, 0), 9), []),
        ]:
            first = ask()
            self.assertEqual(first, told)
            first.insert(0, (9, 9))
            later = ask()
            self.assertEqual(later, told)
            later.clear()
            self.assertEqual(first, [(9, 9), *told])
            self.assertEqual(ask(), told)

    def test_what_is_handed_in_stays(self):
        counts, one, other = [3, 2], (2, 0), (0, 1)
        chests.need_counts(counts)
        chests.many(counts)
        chests.need_row(counts, one)
        chests.number_in(counts, one)
        chests.row_at(counts, 3)
        chests.moves(counts, one)
        chests.moved(counts, one, (1, 1))
        chests.rows(counts)
        chests.way_in(counts, one, other, 9)
        self.assertEqual((counts, one, other), ([3, 2], (2, 0), (0, 1)))

    def test_a_count_that_is_changed_later_changes_nothing_told(self):
        counts = [3, 2]
        told = [chests.rows(counts), chests.moves(counts, (2, 0)), chests.way_in(counts, (0, 0), (2, 1), 9)]
        same = [list(one) for one in told]
        counts[0] = 9
        counts.append(4)
        self.assertEqual(told, same)
        self.assertEqual(len(chests.rows(counts)), 72)
        counts[1:] = []
        self.assertEqual(chests.rows(counts), [(position,) for position in range(9)])
        self.assertEqual(chests.moves(counts, (2,)), [(0, -1), (0, 1)])
        counts[0] = 1
        with self.assertRaises(BadChest):
            chests.rows(counts)
        self.assertEqual(told, same)

    def test_what_is_refused_stays(self):
        counts, row, move = [3, 1], [0, 0], [0, 1]
        steps = iter((0, 0))
        for ask in (chests.need_counts, chests.many, chests.rows):
            with self.assertRaises(BadChest):
                ask(counts)
        for thing in (row, steps):
            for ask in (chests.need_row, chests.number_in, chests.moves):
                with self.assertRaises(BadRow):
                    ask([3, 2], thing)
        with self.assertRaises(RingError):
            chests.moved([3, 2], (0, 0), move)
        self.assertEqual((counts, row, move, list(steps)), ([3, 1], [0, 0], [0, 1], [0, 0]))


if __name__ == "__main__":
    unittest.main()
