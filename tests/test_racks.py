"""Point 9: racks, their rows, deeds, and taking back."""

import unittest
from itertools import product

from ringbar.errors import BadChest, NoMove
from ringbar.racks import Rack
from tests.kinds import no_counts, no_numbers, no_tuples, with_one
from tests.order import allowed_moves, behind, reckoned, row_count

RACKS = [
    [[2]],
    [[9]],
    [[3, 2], [2]],
    [[2], [2], [2]],
    [[4], [2, 3], [3, 2, 2]],
    [[2, 2], [5], [2, 3], [9]],
    [[2], [3], [4, 2], [2, 2, 2], [9] * 12],
]


def deeds_now(chests, rows):
    """All deeds that chests at these rows have, by the words of points 7 and 9."""
    return [(k, *move) for k in range(len(chests)) for move in allowed_moves(chests[k], rows[k])]


def no_racks():
    """Things that are no chests of a rack."""
    kinds = [
        None, True, 0, 1, 2.0, "", "2", b"\x02", (), ([2],), ([2], [3]), {}, {0: [2]}, range(2), object(), list, len,
        [], [[2]] * 6, [[9] * 12] * 50, [2], [2, 3], [[[2]]], iter([[2]]),
    ]
    for thing in no_counts():
        kinds += [[thing], [thing, [2]], [[2], [3, 2], thing]]
    for place in range(5):
        for thing in ([1], [], [10], [2, True], (2, 3), None, [2] * 13):
            kinds.append(with_one([[2], [3], [2, 3], [4], [9] * 12], place, thing))
    return kinds


class NewTest(unittest.TestCase):
    def test_each_chest_stands_at_all_positions_0(self):
        for chests in RACKS:
            rack = Rack(chests)
            self.assertEqual(rack.rows(), [(0,) * len(counts) for counts in chests])
            self.assertEqual(rack.numbers(), [0] * len(chests))
            self.assertEqual(rack.deeds(), [])

    def test_one_to_five_chests(self):
        for many in range(1, 6):
            self.assertEqual(Rack([[9] * 12] * many).rows(), [(0,) * 12] * many)

    def test_what_is_none_is_refused(self):
        for thing in no_racks():
            with self.assertRaises(BadChest):
                Rack(thing)

    def test_objects_of_derived_classes_are_refused(self):
        class Chests(list):
            pass

        for thing in (Chests([[2]]), [Chests([2])]):
            with self.assertRaises(BadChest):
                Rack(thing)

    def test_made_anew_with_what_is_none_it_stays(self):
        rack = Rack([[3], [2]])
        rack.do((0, 0, 1))
        for thing in (None, [], [[3], [1]], [[2]] * 6):
            with self.assertRaises(BadChest):
                rack.__init__(thing)
            self.assertEqual((rack.rows(), rack.numbers(), rack.deeds()), ([(1,), (0,)], [1, 0], [(0, 0, 1)]))


class DoTest(unittest.TestCase):
    def test_an_ordinary_rack(self):
        rack = Rack([[3, 2], [2]])
        for deed in ((0, 0, 1), (1, 0, 1), (0, 0, 1), (0, 1, 1)):
            self.assertIs(rack.do(deed), None)
        self.assertEqual(rack.rows(), [(2, 1), (1,)])
        self.assertEqual(rack.numbers(), [3, 1])
        self.assertEqual(rack.deeds(), [(0, 0, 1), (1, 0, 1), (0, 0, 1), (0, 1, 1)])
        self.assertIs(rack.back(), None)
        self.assertEqual(rack.rows(), [(2, 0), (1,)])
        self.assertEqual(rack.numbers(), [2, 1])
        self.assertEqual(rack.deeds(), [(0, 0, 1), (1, 0, 1), (0, 0, 1)])

    def test_up_and_back_down_to_nothing(self):
        for chests in RACKS:
            rack = Rack(chests)
            seen = [self.state(rack)]
            for step in range(300):
                now = deeds_now(chests, rack.rows())
                rack.do(now[(step * step + step // 7) % len(now)])
                seen.append(self.state(rack))
            while seen:
                self.assertEqual(self.state(rack), seen.pop())
                if seen:
                    rack.back()
            self.refused(rack, rack.back)

    def test_a_long_walk_is_as_the_points_say(self):
        for chests in RACKS:
            rack, rows, done, word = Rack(chests), [(0,) * len(counts) for counts in chests], [], 7
            for _ in range(600):
                word = (word * 1103515245 + 12345) % 2 ** 31
                if done and word // 65536 % 3 == 0:
                    chest, drawer, by = done.pop()
                    rows[chest] = behind(rows[chest], drawer, -by)
                    rack.back()
                else:
                    now = deeds_now(chests, rows)
                    chest, drawer, by = now[word // 65536 % len(now)]
                    done.append((chest, drawer, by))
                    rows[chest] = behind(rows[chest], drawer, by)
                    rack.do((chest, drawer, by))
                numbers = [reckoned(counts, row) for counts, row in zip(chests, rows)]
                self.assertEqual(self.state(rack), (rows, numbers, done))

    def test_a_deed_and_its_opposite_are_two_deeds(self):
        rack = Rack([[3]])
        rack.do((0, 0, 1))
        rack.do((0, 0, -1))
        self.assertEqual((rack.rows(), rack.deeds()), ([(0,)], [(0, 0, 1), (0, 0, -1)]))
        rack.back()
        self.assertEqual((rack.rows(), rack.deeds()), ([(1,)], [(0, 0, 1)]))

    def test_a_chest_goes_through_all_its_rows(self):
        for counts in ([2, 3, 2], [9], [2] * 6, [3, 3, 3]):
            rack = Rack([[2], counts])
            for number in range(1, row_count(counts)):
                onward = [
                    deed for deed in deeds_now([[2], counts], rack.rows())
                    if deed[0] == 1 and reckoned(counts, behind(rack.rows()[1], *deed[1:])) == number
                ]
                self.assertEqual(len(onward), 1)
                rack.do(onward[0])
                self.assertEqual(rack.numbers(), [0, number])

    def state(self, rack):
        return (rack.rows(), rack.numbers(), rack.deeds())

    def refused(self, rack, ask, *rest):
        before = self.state(rack)
        with self.assertRaises(NoMove):
            ask(*rest)
        self.assertEqual(self.state(rack), before)

    def moved_racks(self):
        """Each rack at its first rows, and some steps from there."""
        for chests in RACKS:
            rack = Rack(chests)
            for step in range(3):
                yield chests, rack
                for turn in range(5):
                    now = deeds_now(chests, rack.rows())
                    rack.do(now[(step + turn) % len(now)])

    def test_each_change_that_is_no_deed_now(self):
        for chests, rack in self.moved_racks():
            now = deeds_now(chests, rack.rows())
            drawers = max(len(counts) for counts in chests)
            for deed in product(range(-len(chests) - 1, len(chests) + 2), range(-drawers - 1, drawers + 2), range(-2, 3)):
                if deed in now:
                    before = self.state(rack)
                    rack.do(deed)
                    self.assertEqual(rack.rows()[deed[0]], behind(before[0][deed[0]], *deed[1:]))
                    rack.back()
                    self.assertEqual(self.state(rack), before)
                else:
                    self.refused(rack, rack.do, deed)

    def test_things_of_other_kinds_are_no_deeds(self):
        for chests, rack in self.moved_racks():
            for thing in no_tuples():
                self.refused(rack, rack.do, thing)
            for deed in deeds_now(chests, rack.rows()):
                for thing in (list(deed), str(deed), (deed,), [deed], deed[1:], deed[:2], deed + (0,), deed * 2, ()):
                    self.refused(rack, rack.do, thing)

    def test_tuples_of_other_kinds_are_no_deeds(self):
        rack = Rack([[3], [2, 2]])
        rack.do((0, 0, 1))
        rack.do((1, 0, 1))
        for part in no_numbers() + [10 ** 400, -10 ** 400]:
            for thing in ((part, 0, 1), (part, 0, -1), (0, part, 1), (1, part, 1), (0, 0, part), (1, 0, part), (part,) * 3):
                self.refused(rack, rack.do, thing)

    def test_objects_of_derived_classes_are_no_deeds(self):
        class Deed(tuple):
            pass

        class Part(int):
            pass

        rack = Rack([[3]])
        for thing in (Deed((0, 0, 1)), (Part(0), 0, 1), (0, Part(0), 1), (0, 0, Part(1))):
            self.refused(rack, rack.do, thing)

    def test_a_deed_that_is_refused_now_is_one_later(self):
        rack = Rack([[3, 2], [2, 2]])
        for deed, first in (((0, 1, 1), [(0, 0, 1), (0, 0, 1)]), ((1, 1, 1), [(1, 0, 1)]), ((0, 1, -1), [])):
            if first:
                self.refused(rack, rack.do, deed)
            for one in first:
                rack.do(one)
            rack.do(deed)
            self.refused(rack, rack.do, deed)
        self.assertEqual(rack.rows(), [(2, 0), (1, 1)])

    def test_a_deed_of_one_chest_is_none_of_another(self):
        rack = Rack([[2], [3]])
        rack.do((0, 0, 1))
        rack.do((1, 0, 1))
        self.refused(rack, rack.do, (0, 0, 1))
        rack.do((1, 0, 1))
        self.refused(rack, rack.do, (1, 0, 1))
        self.assertEqual(rack.rows(), [(1,), (2,)])

    def test_back_where_there_is_none(self):
        for chests in RACKS:
            rack = Rack(chests)
            self.refused(rack, rack.back)
            rack.do((0, 0, 1))
            rack.back()
            self.refused(rack, rack.back)
            rack.do((0, 0, 1))
            self.assertEqual(rack.deeds(), [(0, 0, 1)])

    def test_a_refused_deed_is_not_taken_back(self):
        rack = Rack([[3]])
        rack.do((0, 0, 1))
        self.refused(rack, rack.do, (0, 0, 2))
        rack.back()
        self.assertEqual(self.state(rack), ([(0,)], [0], []))


class OwnTest(unittest.TestCase):
    def test_two_racks_side_by_side(self):
        chests = [[3, 2], [2]]
        one, other = Rack(chests), Rack(chests)
        one.do((0, 0, 1))
        one.do((1, 0, 1))
        self.assertEqual((other.rows(), other.numbers(), other.deeds()), ([(0, 0), (0,)], [0, 0], []))
        with self.assertRaises(NoMove):
            other.back()
        other.do((1, 0, 1))
        one.back()
        self.assertEqual((one.rows(), one.deeds()), ([(1, 0), (0,)], [(0, 0, 1)]))
        self.assertEqual((other.rows(), other.deeds()), ([(0, 0), (1,)], [(1, 0, 1)]))

    def test_one_list_of_counts_in_two_places(self):
        counts = [3]
        rack = Rack([counts, counts])
        rack.do((1, 0, 1))
        self.assertEqual(rack.rows(), [(0,), (1,)])

    def test_the_handed_lists_changed_later(self):
        chests = [[3, 2], [2]]
        rack = Rack(chests)
        chests[0][0] = 2
        chests[0].append(9)
        chests[1].clear()
        chests.append([5])
        self.assertEqual(rack.rows(), [(0, 0), (0,)])
        rack.do((0, 0, 1))
        rack.do((0, 0, 1))
        rack.do((0, 1, 1))
        rack.do((1, 0, 1))
        self.assertEqual((rack.rows(), rack.numbers()), ([(2, 1), (1,)], [3, 1]))
        self.assertEqual(rack.way_to([(2, 1), (0,)], 9), [(1, 0, -1)])
        for deed in ((2, 0, 1), (0, 2, 1)):
            with self.assertRaises(NoMove):
                rack.do(deed)
        chests.clear()
        self.assertEqual((rack.rows(), rack.numbers()), ([(2, 1), (1,)], [3, 1]))

    def test_what_is_handed_in_stays(self):
        chests, deed, rows = [[3, 2], [2]], (0, 0, 1), [(0, 1), (1,)]
        rack = Rack(chests)
        rack.do(deed)
        rack.way_to(rows, 10)
        rack.back()
        self.assertEqual((chests, deed, rows), ([[3, 2], [2]], (0, 0, 1), [(0, 1), (1,)]))

    def test_what_is_refused_stays(self):
        chests, deed, rows = [[3], [1]], [0, 0, 1], [(0, 1), [1]]
        with self.assertRaises(BadChest):
            Rack(chests)
        rack = Rack([[3, 2], [2]])
        with self.assertRaises(NoMove):
            rack.do(deed)
        with self.assertRaises(ValueError):
            rack.way_to(rows, 10)
        self.assertEqual((chests, deed, rows), ([[3], [1]], [0, 0, 1], [(0, 1), [1]]))

    def test_a_told_list_is_the_askers_own(self):
        rack = Rack([[3, 2], [2]])
        rack.do((0, 0, 1))
        for ask, told in (
            (rack.rows, [(1, 0), (0,)]),
            (rack.numbers, [1, 0]),
            (rack.deeds, [(0, 0, 1)]),
            (lambda: rack.way_to([(2, 0), (1,)], 9), [(0, 0, 1), (1, 0, 1)]),
            (lambda: rack.way_to([(1, 0), (0,)], 9), []),
        ):
            first = ask()
            self.assertEqual(first, told)
            first.insert(0, (9, 9, 9))
            later = ask()
            self.assertEqual(later, told)
            later.clear()
            self.assertEqual(ask(), told)
            self.assertEqual(first, [(9, 9, 9), *told])
        rack.do((0, 0, 1))
        self.assertEqual((rack.rows(), rack.numbers()), ([(2, 0), (0,)], [2, 0]))
        self.assertEqual(rack.deeds(), [(0, 0, 1), (0, 0, 1)])

    def test_a_told_list_stays_whatever_is_done_later(self):
        rack = Rack([[3, 2], [2]])
        rack.do((0, 0, 1))
        told = [rack.rows(), rack.numbers(), rack.deeds(), rack.way_to([(2, 0), (1,)], 9)]
        rack.do((0, 0, 1))
        rack.do((1, 0, 1))
        rack.back()
        rack.back()
        rack.back()
        self.assertEqual(told, [[(1, 0), (0,)], [1, 0], [(0, 0, 1)], [(0, 0, 1), (1, 0, 1)]])


if __name__ == "__main__":
    unittest.main()
