"""Point 10: the way of a rack, told in turn."""

import unittest

from ringbar.chests import row_at, way_in
from ringbar.errors import BadNumber, BadRow
from ringbar.racks import Rack
from tests.kinds import no_mosts, no_rows, with_one
from tests.order import row_count

RACKS = [
    [[2]],
    [[9]],
    [[3, 2], [2]],
    [[4], [2, 3], [3, 2, 2]],
    [[2, 2], [5], [2, 3], [9]],
    [[2], [3], [4, 2], [2, 2, 2], [9] * 12],
]


def goals(chests):
    """Some lists of rows of these chests, with ways of unlike lengths and of none."""
    found = []
    for step in range(9):
        numbers = [(step * (k + 2) + k * k) % row_count(counts) for k, counts in enumerate(chests)]
        found.append([row_at(counts, number) for counts, number in zip(chests, numbers)])
    found.append([row_at(counts, 0) for counts in chests])
    found.append([row_at(counts, row_count(counts) - 1) for counts in chests])
    return found


def in_turn(chests, here, there):
    """The first 1000 deeds of the way, by the words of point 10."""
    left = [way_in(counts, one, other, 1000) for counts, one, other in zip(chests, here, there)]
    told = []
    while any(left):
        for chest, moves in enumerate(left):
            if moves:
                told.append((chest, *moves.pop(0)))
    return told[:1000]


def no_row_lists(chests):
    """Things that are no list of as many rows of these chests."""
    first = [(0,) * len(counts) for counts in chests]
    found = [
        None, True, 0, "", "0", tuple(first), dict(enumerate(first)), iter(first), {}, range(len(first)), object(), list,
        len, [], first[1:], first + [(0,)], first * 2, [first], [list(row) for row in first], [0] * len(first),
    ]
    for place, counts in enumerate(chests):
        for thing in no_rows(counts):
            found.append(with_one(first, place, thing))
    return found


class WayToTest(unittest.TestCase):
    def test_the_turn(self):
        rack = Rack([[2, 2], [3], [2]])
        self.assertEqual(rack.way_to([(0, 1), (2,), (0,)], 10), [
            (0, 0, 1), (1, 0, 1), (0, 1, 1), (1, 0, 1), (0, 0, -1),
        ])
        self.assertEqual(rack.way_to([(0, 0), (2,), (1,)], 10), [(1, 0, 1), (2, 0, 1), (1, 0, 1)])
        self.assertEqual(rack.way_to([(1, 0), (0,), (1,)], 10), [(0, 0, 1), (2, 0, 1)])
        self.assertEqual(rack.way_to([(0, 1), (1,), (1,)], 10), [
            (0, 0, 1), (1, 0, 1), (2, 0, 1), (0, 1, 1), (0, 0, -1),
        ])

    def test_from_other_rows_than_the_first(self):
        rack = Rack([[2, 2], [3], [2]])
        for deed in ((0, 0, 1), (0, 1, 1), (1, 0, 1), (1, 0, 1), (2, 0, 1)):
            rack.do(deed)
        self.assertEqual(rack.way_to([(0, 0), (0,), (0,)], 10), [
            (0, 1, -1), (1, 0, -1), (2, 0, -1), (0, 0, -1), (1, 0, -1),
        ])
        self.assertEqual(rack.way_to([(0, 1), (0,), (1,)], 10), [(0, 0, -1), (1, 0, -1), (1, 0, -1)])

    def test_no_length(self):
        for chests in RACKS:
            rack = Rack(chests)
            for most in (0, 1, 1000):
                self.assertEqual(rack.way_to(rack.rows(), most), [])

    def test_the_first_most_of_them(self):
        rack = Rack([[2, 2], [3], [2]])
        whole = rack.way_to([(0, 1), (2,), (1,)], 1000)
        self.assertEqual(len(whole), 6)
        for most in range(10):
            self.assertEqual(rack.way_to([(0, 1), (2,), (1,)], most), whole[:most])

    def test_many_racks_are_as_the_point_says(self):
        for chests in RACKS:
            rack = Rack(chests)
            for there in goals(chests):
                told = in_turn(chests, rack.rows(), there)
                for most in (0, 1, 2, 3, 5, 7, 999, 1000):
                    before = (rack.rows(), rack.numbers(), rack.deeds())
                    self.assertEqual(rack.way_to(there, most), told[:most])
                    self.assertEqual((rack.rows(), rack.numbers(), rack.deeds()), before)
                for deed in told[:11]:
                    rack.do(deed)

    def test_its_deeds_lead_there_in_their_order(self):
        for chests in RACKS[:-1]:
            for here in goals(chests):
                for there in goals(chests):
                    rack = Rack(chests)
                    for goal in (here, there):
                        for deed in rack.way_to(goal, 1000):
                            self.assertIs(type(deed), tuple)
                            rack.do(deed)
                        self.assertEqual(rack.rows(), goal)

    def test_rows_that_are_very_far_apart(self):
        chests = [[9] * 12, [2] * 12, [3], [9] * 12]
        there = [(8,) * 12, (0,) * 11 + (1,), (2,), (0,) * 11 + (8,)]
        rack = Rack(chests)
        told = in_turn(chests, rack.rows(), there)
        for most in (0, 1, 4, 7, 999, 1000):
            found = rack.way_to(there, most)
            self.assertEqual(len(found), most)
            self.assertEqual(found, told[:most])
        self.assertEqual([deed[0] for deed in found[:14]], [0, 1, 2, 3, 0, 1, 2, 3, 0, 1, 3, 0, 1, 3])

    def test_one_chest_with_a_long_way_beside_short_ones(self):
        rack = Rack([[2], [9] * 12, [2], [2], [2]])
        found = rack.way_to([(1,), (8,) * 12, (1,), (0,), (1,)], 1000)
        self.assertEqual(len(found), 1000)
        self.assertEqual([deed[0] for deed in found], [0, 1, 2, 4] + [1] * 996)

    def test_a_list_that_is_changed_later_changes_nothing(self):
        rack = Rack([[3], [2]])
        there = [(2,), (1,)]
        told = rack.way_to(there, 9)
        there[0] = (0,)
        there.append((0,))
        self.assertEqual(told, [(0, 0, 1), (1, 0, 1), (0, 0, 1)])
        self.assertEqual(rack.way_to([(2,), (1,)], 9), told)


class RefusalsTest(unittest.TestCase):
    def refused(self, refusal, rack, rows, most):
        before = (rack.rows(), rack.numbers(), rack.deeds())
        with self.assertRaises(refusal):
            rack.way_to(rows, most)
        self.assertEqual((rack.rows(), rack.numbers(), rack.deeds()), before)

    def test_what_is_no_list_of_rows(self):
        for chests in ([[2]], [[3, 2], [2]], [[2], [3], [2, 2], [4], [9, 2]]):
            rack = Rack(chests)
            rack.do((0, 0, 1))
            for thing in no_row_lists(chests):
                self.refused(BadRow, rack, thing, 5)

    def test_rows_are_refused_ahead_of_most(self):
        chests = [[3, 2], [2], [4]]
        rack = Rack(chests)
        for thing in no_row_lists(chests):
            for most in (-1, 1001, None, True):
                self.refused(BadRow, rack, thing, most)

    def test_most_that_is_no_number(self):
        for chests in ([[2]], [[3, 2], [2]], [[2], [3], [2, 2], [4], [9, 2]]):
            rack = Rack(chests)
            for there in goals(chests):
                for most in no_mosts():
                    self.refused(BadNumber, rack, there, most)

    def test_objects_of_derived_classes_are_no_rows(self):
        class Rows(list):
            pass

        self.refused(BadRow, Rack([[2]]), Rows([(1,)]), 5)


if __name__ == "__main__":
    unittest.main()
