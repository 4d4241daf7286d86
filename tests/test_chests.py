"""Point 5: what a chest, its counts and a row are."""

import unittest

from ringbar.chests import many, moved, moves, need_counts, need_row, number_in, row_at, rows, way_in
from ringbar.errors import BadChest, BadRow
from tests.kinds import no_counts, no_rows
from tests.order import all_rows, row_count, small_chests

BIG = [[2] * 12, [9] * 12, [2, 3, 4, 5, 6, 7, 8, 9, 2, 3, 4, 5], [9, 2] * 6]


class NeedCountsTest(unittest.TestCase):
    def test_counts_are_taken(self):
        for counts in small_chests(200) + BIG:
            self.assertIs(need_counts(counts), None)

    def test_each_count_alone_and_each_many_of_drawers(self):
        for count in range(2, 10):
            for drawers in range(1, 13):
                self.assertIs(need_counts([count] * drawers), None)

    def test_what_are_none_is_refused(self):
        for thing in no_counts():
            with self.assertRaises(BadChest):
                need_counts(thing)

    def test_objects_of_derived_classes_are_refused(self):
        class Counts(list):
            pass

        class Count(int):
            pass

        for thing in (Counts([2, 3]), [Count(2), 3], [2, Count(3)]):
            with self.assertRaises(BadChest):
                need_counts(thing)

    def test_a_list_within_itself_is_refused(self):
        counts = [2]
        counts.append(counts)
        with self.assertRaises(BadChest):
            need_counts(counts)


class ManyTest(unittest.TestCase):
    def test_ordinary_chests(self):
        self.assertEqual(many([2]), 2)
        self.assertEqual(many([9]), 9)
        self.assertEqual(many([2, 3]), 6)
        self.assertEqual(many([4, 3, 5]), 60)

    def test_twelve_drawers(self):
        told = [4096, 282429536481, 43545600, 18 ** 6]
        self.assertEqual([many(counts) for counts in BIG], told)

    def test_small_chests(self):
        for counts in small_chests(200):
            self.assertEqual(many(counts), len(all_rows(counts)))

    def test_every_function_refuses_what_are_no_counts(self):
        for thing in no_counts():
            for ask in (
                lambda: many(thing),
                lambda: need_row(thing, (0,)),
                lambda: number_in(thing, (0,)),
                lambda: row_at(thing, 0),
                lambda: moves(thing, (0,)),
                lambda: moved(thing, (0,), (0, 1)),
                lambda: rows(thing),
                lambda: way_in(thing, (0,), (1,), 1),
            ):
                with self.assertRaises(BadChest):
                    ask()


class NeedRowTest(unittest.TestCase):
    def test_rows_are_taken(self):
        for counts in small_chests(60):
            for row in all_rows(counts):
                self.assertIs(need_row(counts, row), None)

    def test_twelve_drawers(self):
        for counts in BIG:
            for row in ((0,) * 12, tuple(count - 1 for count in counts), tuple(count // 2 for count in counts)):
                self.assertIs(need_row(counts, row), None)

    def test_what_is_no_row_is_refused(self):
        for counts in [[2], [9], [2, 3], [5, 4, 3, 2], *BIG]:
            for thing in no_rows(counts):
                with self.assertRaises(BadRow):
                    need_row(counts, thing)

    def test_just_the_rows_are_taken(self):
        for counts in ([2], [4], [2, 3], [3, 2, 2]):
            bounds = [max(counts) + 2] * len(counts)
            taken = []
            for row in all_rows(bounds):
                try:
                    need_row(counts, row)
                    taken.append(row)
                except BadRow:
                    pass
            self.assertEqual(taken, all_rows(counts))
            self.assertEqual(len(taken), row_count(counts))

    def test_objects_of_derived_classes_are_refused(self):
        class Row(tuple):
            pass

        class Position(int):
            pass

        for thing in (Row((0, 1)), (Position(0), 1), (0, Position(1))):
            with self.assertRaises(BadRow):
                need_row([2, 3], thing)

    def test_counts_are_refused_ahead_of_rows(self):
        for counts in ([], [1], [2, 10], (2,), None, True, "2"):
            for row in ((0,), (5,), [0], None, True, ()):
                with self.assertRaises(BadChest):
                    need_row(counts, row)


if __name__ == "__main__":
    unittest.main()
