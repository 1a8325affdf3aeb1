import itertools
import unittest

from helper import all_rows, fits, is_settled, small_rings
from ringdeal.dealing import deal_of, moves, names_of

KEEPERS = {0: 1, 1: 2, 2: 1}
NAMES = [0, 1, 2, 3, 4, 5]


class DealTest(unittest.TestCase):
    def test_worked_pair_by_pair(self):
        # The pairs in order, each 1, so room for 1, 2 and 1:
        # (6, 2, 1) dealt; (6, 4, 1) dealt, 1 is full; (9, 2, 2) has one; (12, 1, 1) full;
        # (13, 0, 0) dealt, 0 is full; (13, 3, 0) full; (20, 5, 1), (24, 0, 1), (24, 3, 1) full;
        # (27, 0, 2) has one; (27, 3, 2) dealt, 2 is full; all that follow find no room.
        self.assertEqual(
            deal_of((60, 1), KEEPERS, NAMES),
            [(0, 0), (1, None), (2, 1), (3, 2), (4, 1), (5, None)],
        )

    def test_room_for_all(self):
        self.assertEqual(
            deal_of((60, 2), KEEPERS, NAMES),
            [(0, 0), (1, 1), (2, 1), (3, 0), (4, 1), (5, 1)],
        )

    def test_the_nearer_name_has_the_room(self):
        # Name 1 at 2 has 11 steps to keeper 0 at 1, name 4 at 8 has 5.
        self.assertEqual(deal_of((12, 1), {0: 1}, [1, 4]), [(1, None), (4, 0)])

    def test_of_the_same_way_the_lower_name_has_the_room(self):
        # Names 0 and 3 are both at 0.
        self.assertEqual(deal_of((60, 1), {0: 1}, [3, 0]), [(0, 0), (3, None)])

    def test_of_the_same_way_the_lower_keeper_comes_first(self):
        # Keepers 0 and 12 are both at 1 of 12.
        self.assertEqual(deal_of((12, 1), {12: 1, 0: 1}, [0]), [(0, 0)])
        self.assertEqual(deal_of((12, 1), {12: 1, 0: 1}, [0, 3]), [(0, 0), (3, 12)])

    def test_a_ring_of_one_place(self):
        self.assertEqual(
            deal_of((1, 1), {7: 1, 4: 2}, [9, 8, 3, 1]),
            [(1, 4), (3, 4), (8, 7), (9, None)],
        )

    def test_the_share_bounds_the_names(self):
        for each, share in [(1, 1), (1, 3), (2, 1), (2, 2)]:
            with self.subTest(each=each, share=share):
                rows = deal_of((60, each), {5: share}, NAMES)
                self.assertEqual(len(names_of(rows, 5)), each * share)

    def test_no_keepers(self):
        self.assertEqual(deal_of((60, 1), {}, [4, 0, 2]), [(0, None), (2, None), (4, None)])

    def test_no_names(self):
        self.assertEqual(deal_of((60, 1), KEEPERS, []), [])
        self.assertEqual(deal_of((60, 1), {}, []), [])

    def test_too_little_room_fills_every_keeper(self):
        names = [40, 3, 17, 0, 8, 21, 5, 33, 12, 6]
        for each in [1, 2]:
            keepers = {3: 1, 0: 2, 11: 1}
            rows = deal_of((997, each), keepers, names)
            for keeper, share in keepers.items():
                with self.subTest(each=each, keeper=keeper):
                    self.assertEqual(len(names_of(rows, keeper)), each * share)
            self.assertEqual(len(names_of(rows, None)), 10 - 4 * each)

    def test_just_enough_room(self):
        rows = deal_of((997, 2), {3: 1, 0: 2, 11: 2}, [40, 3, 17, 0, 8, 21, 5, 33, 12, 6])
        self.assertEqual(names_of(rows, None), [])
        self.assertEqual([len(names_of(rows, keeper)) for keeper in [0, 3, 11]], [4, 2, 4])

    def test_none_only_where_no_room_is_left(self):
        for plan, keepers, names in small_rings():
            with self.subTest(plan=plan, keepers=keepers, names=names):
                rows = deal_of(plan, keepers, names)
                room = plan[1] * sum(keepers.values())
                self.assertEqual(len(names_of(rows, None)), max(0, len(names) - room))

    def test_rows_fit_and_are_settled(self):
        for plan, keepers, names in small_rings():
            with self.subTest(plan=plan, keepers=keepers, names=names):
                rows = deal_of(plan, keepers, names)
                self.assertTrue(fits(plan, keepers, names, rows))
                self.assertTrue(is_settled(plan, keepers, rows))

    def test_no_other_rows_are_settled(self):
        for plan, keepers, names in small_rings():
            if len(names) == 5:
                continue
            with self.subTest(plan=plan, keepers=keepers, names=names):
                settled = [
                    rows for rows in all_rows(keepers, names)
                    if fits(plan, keepers, names, rows) and is_settled(plan, keepers, rows)
                ]
                self.assertEqual(settled, [deal_of(plan, keepers, names)])

    def test_the_order_handed_in_makes_no_difference(self):
        keepers = [(5, 2), (1, 1), (9, 1)]
        names = [4, 0, 7, 3, 6]
        for size in [1, 12, 60]:
            expected = deal_of((size, 1), dict(keepers), names)
            for some in itertools.permutations(keepers):
                for others in itertools.permutations(names):
                    self.assertEqual(deal_of((size, 1), dict(some), list(others)), expected)

    def test_numbers_of_a_hundred_figures(self):
        # Name 0 has 10 steps to keeper 10 ** 99; name 10 ** 99 at 24 has the longer way to both.
        size = 10**99 + 1
        self.assertEqual(
            deal_of((size, 10**99), {10**99: 2, 0: 1}, [10**99, 0]),
            [(0, 10**99), (10**99, 10**99)],
        )
        self.assertEqual(
            deal_of((size, 1), {10**99: 1, 0: 1}, [10**99, 0, 10**99 + 1]),
            [(0, 0), (10**99, 10**99), (10**99 + 1, None)],
        )

    def test_somewhat_beyond_the_bounds(self):
        plan = (10**100 + 267, 1)
        keepers = {10**100 + 7 * keeper: 1 + keeper % 2 for keeper in range(105)}
        names = [10**101 - 3 * name for name in range(160)]
        rows = deal_of(plan, keepers, names)
        self.assertTrue(fits(plan, keepers, names, rows))
        self.assertEqual(len(names_of(rows, None)), 160 - sum(keepers.values()))

    def test_nothing_handed_in_is_changed(self):
        plan = (60, 1)
        keepers = {9: 3, 2: 1, 4: 2}
        names = [5, 1, 4, 0]
        first = deal_of(plan, keepers, names)
        self.assertEqual(plan, (60, 1))
        self.assertEqual(list(keepers.items()), [(9, 3), (2, 1), (4, 2)])
        self.assertEqual(names, [5, 1, 4, 0])
        self.assertEqual(deal_of(plan, keepers, names), first)


class NamesOfTest(unittest.TestCase):
    ROWS = [(0, 0), (1, None), (2, 1), (3, 2), (4, 1), (10, 1)]

    def test_several_in_order(self):
        self.assertEqual(names_of(self.ROWS, 1), [2, 4, 10])

    def test_one_and_keeper_nought(self):
        self.assertEqual(names_of(self.ROWS, 2), [3])
        self.assertEqual(names_of(self.ROWS, 0), [0])

    def test_a_keeper_that_has_none(self):
        # Keeper 1 is there, but both names meet keeper 0 first.
        rows = deal_of((60, 2), {0: 1, 1: 1}, [0, 3])
        self.assertEqual(names_of(rows, 0), [0, 3])
        self.assertEqual(names_of(rows, 1), [])

    def test_a_keeper_that_the_rows_do_not_hold(self):
        self.assertEqual(names_of(self.ROWS, 77), [])
        self.assertEqual(names_of(self.ROWS, 10**100), [])
        self.assertEqual(names_of([], 1), [])
        self.assertEqual(names_of([(4, None), (5, None)], 0), [])

    def test_a_keeper_is_not_taken_for_a_name(self):
        self.assertEqual(names_of([(1, 2), (2, 3)], 2), [1])

    def test_numbers_of_a_hundred_figures(self):
        self.assertEqual(names_of([(3, 10**99), (10**99, 10**99 + 1), (10**100, 10**99)], 10**99), [3, 10**100])

    def test_nothing_handed_in_is_changed(self):
        rows = list(self.ROWS)
        names_of(rows, 1)
        self.assertEqual(rows, self.ROWS)


class MovesTest(unittest.TestCase):
    def test_none(self):
        rows = [(0, 0), (1, None), (2, 1)]
        self.assertEqual(moves(rows, list(rows)), [])
        self.assertEqual(moves([], []), [])

    def test_a_name_that_moves(self):
        self.assertEqual(moves([(0, 0), (2, 1)], [(0, 0), (2, 3)]), [(2, 1, 3)])

    def test_to_none_and_from_none(self):
        self.assertEqual(moves([(0, 0), (2, 1)], [(0, 0), (2, None)]), [(2, 1, None)])
        self.assertEqual(moves([(0, 0), (2, None)], [(0, 0), (2, 1)]), [(2, None, 1)])

    def test_keeper_nought_is_not_none(self):
        self.assertEqual(moves([(5, 0)], [(5, None)]), [(5, 0, None)])
        self.assertEqual(moves([(5, None)], [(5, 0)]), [(5, None, 0)])
        self.assertEqual(moves([], [(5, 0)]), [(5, None, 0)])

    def test_a_new_name_with_a_keeper(self):
        self.assertEqual(moves([(0, 0)], [(0, 0), (2, 1)]), [(2, None, 1)])

    def test_a_new_name_without_a_keeper(self):
        self.assertEqual(moves([(0, 0)], [(0, 0), (2, None)]), [])

    def test_a_name_of_the_earlier_deal_alone(self):
        self.assertEqual(moves([(0, 0), (2, 1)], [(0, 0)]), [])
        self.assertEqual(moves([(0, 0), (2, 1)], []), [])
        self.assertEqual(moves([(2, 1), (3, None)], [(3, 1)]), [(3, None, 1)])

    def test_several_in_the_order_of_the_names(self):
        before = [(0, 4), (3, 1), (7, None), (9, 2), (10, 4), (11, 4)]
        after = [(0, 2), (2, 1), (7, 4), (9, 2), (10, None), (12, None)]
        self.assertEqual(moves(before, after), [(0, 4, 2), (2, None, 1), (7, None, 4), (10, 4, None)])

    def test_between_two_deals(self):
        before = deal_of((60, 1), {0: 1, 1: 2, 2: 1}, NAMES)
        after = deal_of((60, 2), {0: 1, 1: 2, 2: 1}, NAMES)
        self.assertEqual(moves(before, after), [(1, None, 1), (3, 2, 0), (5, None, 1)])
        self.assertEqual(moves(after, before), [(1, 1, None), (3, 0, 2), (5, 1, None)])

    def test_numbers_of_a_hundred_figures(self):
        self.assertEqual(moves([(10**99, 10**99)], [(10**99, 10**99 + 1)]), [(10**99, 10**99, 10**99 + 1)])
        self.assertEqual(moves([(10**99, 10**99)], [(10**99, 10**98 * 10)]), [])

    def test_nothing_handed_in_is_changed(self):
        before = [(0, 0), (2, 1), (3, None)]
        after = [(0, 1), (3, 0), (4, None)]
        moves(before, after)
        self.assertEqual(before, [(0, 0), (2, 1), (3, None)])
        self.assertEqual(after, [(0, 1), (3, 0), (4, None)])


if __name__ == "__main__":
    unittest.main()
