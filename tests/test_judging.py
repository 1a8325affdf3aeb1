import itertools
import unittest

from helper import all_rows, fits, is_settled, small_rings
from ringdeal.dealing import deal_of
from ringdeal.judging import is_deal

PLAN = (60, 1)
KEEPERS = {0: 1, 1: 2, 2: 1}
NAMES = [4, 0, 5, 2, 1, 3]
DEAL = [(0, 0), (1, None), (2, 1), (3, 2), (4, 1), (5, None)]


def with_row(place, row):
    return DEAL[:place] + [row] + DEAL[place + 1:]


class JudgeTest(unittest.TestCase):
    def yes(self, rows, plan=PLAN, keepers=KEEPERS, names=NAMES):
        self.assertIs(is_deal(plan, keepers, names, rows), True)

    def no(self, rows, plan=PLAN, keepers=KEEPERS, names=NAMES):
        with self.subTest(rows=rows):
            self.assertIs(is_deal(plan, keepers, names, rows), False)

    def test_the_deal_itself(self):
        self.yes(DEAL)
        self.yes(deal_of(PLAN, KEEPERS, NAMES))

    def test_the_deal_of_others(self):
        self.no(DEAL, plan=(60, 2))
        self.no(DEAL, plan=(61, 1))
        self.no(DEAL, keepers={0: 1, 1: 2})
        self.no(DEAL, keepers={0: 1, 1: 1, 2: 1})
        self.no(DEAL, names=[0, 1, 2, 3, 4])
        self.no(DEAL, names=[0, 1, 2, 3, 4, 5, 6])

    def test_a_name_at_another_keeper(self):
        # With each 2 there is room everywhere; name 3 still is nearest to keeper 0.
        rows = [(0, 0), (1, 1), (2, 1), (3, 0), (4, 1), (5, 1)]
        self.yes(rows, plan=(60, 2))
        for keeper in [1, 2]:
            self.no(rows[:3] + [(3, keeper)] + rows[4:], plan=(60, 2))

    def test_a_name_at_none(self):
        for place in [0, 2, 3, 4]:
            self.no(with_row(place, (DEAL[place][0], None)))

    def test_a_name_at_a_keeper_that_is_not_there(self):
        for keeper in [3, 60, 10**99, -1]:
            for place in range(6):
                self.no(with_row(place, (DEAL[place][0], keeper)))

    def test_keepers_changed_about(self):
        for one, other in itertools.combinations(range(6), 2):
            if DEAL[one][1] != DEAL[other][1]:
                rows = list(DEAL)
                rows[one] = (DEAL[one][0], DEAL[other][1])
                rows[other] = (DEAL[other][0], DEAL[one][1])
                self.no(rows)

    def test_a_row_out(self):
        for place in range(6):
            self.no(DEAL[:place] + DEAL[place + 1:])

    def test_a_row_twice(self):
        for place in range(6):
            self.no(DEAL[:place] + [DEAL[place]] + DEAL[place:])
            self.no(DEAL + [DEAL[place]])
            # As many rows as names, but one of them in the place of another.
            self.no(with_row((place + 1) % 6, DEAL[place]))

    def test_a_row_of_a_name_that_is_not_there(self):
        for row in [(6, None), (6, 2), (10**99, None), (-1, None), (-1, 0)]:
            self.no(DEAL + [row])
            self.no([row] + DEAL)
        self.no(DEAL[:5] + [(6, None)])
        self.no([(-1, 0)] + DEAL[1:])

    def test_rows_in_another_order(self):
        for rows in itertools.permutations(DEAL):
            self.assertIs(is_deal(PLAN, KEEPERS, NAMES, list(rows)), list(rows) == DEAL)

    def test_over_a_bound(self):
        # Name 1 would go to keeper 1, name 3 to keeper 0, if they had room.
        self.no(with_row(1, (1, 1)))
        self.no(with_row(3, (3, 0)))
        self.no([(0, 0), (3, 0)], keepers={0: 1}, names=[0, 3])
        self.yes([(0, 0), (3, None)], keepers={0: 1}, names=[0, 3])
        self.yes([(0, 0), (3, 0)], plan=(60, 2), keepers={0: 1}, names=[0, 3])
        self.yes([(0, 0), (3, 0)], keepers={0: 2}, names=[0, 3])

    def test_below_a_bound(self):
        self.no([(0, None), (3, None)], keepers={0: 1}, names=[0, 3])

    def test_the_farther_name_has_the_room(self):
        self.no([(0, None), (3, 0)], keepers={0: 1}, names=[0, 3])
        self.no([(1, 0), (4, None)], plan=(12, 1), keepers={0: 1}, names=[1, 4])
        self.yes([(1, None), (4, 0)], plan=(12, 1), keepers={0: 1}, names=[1, 4])

    def test_no_names(self):
        self.yes([], names=[])
        self.yes([], keepers={}, names=[])
        self.no([(0, None)], names=[])
        self.no([(0, None)], keepers={}, names=[])

    def test_no_keepers(self):
        self.yes([(0, None), (3, None)], keepers={}, names=[3, 0])
        self.no([(0, 0), (3, None)], keepers={}, names=[3, 0])

    def test_no_rows(self):
        self.no([])
        self.no([], keepers={})

    def test_as_point_9_tells_it(self):
        for plan, keepers, names in small_rings():
            if len(names) == 5:
                continue
            with self.subTest(plan=plan, keepers=keepers, names=names):
                for rows in all_rows(keepers, names):
                    told = fits(plan, keepers, names, rows) and is_settled(plan, keepers, rows)
                    self.assertIs(is_deal(plan, keepers, names, rows), told)

    def test_somewhat_beyond_the_bounds(self):
        plan = (10**100 + 267, 1)
        keepers = {10**100 + 7 * keeper: 1 + keeper % 2 for keeper in range(105)}
        names = [10**101 - 3 * name for name in range(160)]
        rows = deal_of(plan, keepers, names)
        self.yes(rows, plan, keepers, names)
        holder = rows[0][1]
        self.no([(rows[0][0], None if holder is not None else 10**100)] + rows[1:], plan, keepers, names)

    def test_nothing_handed_in_is_changed(self):
        keepers = {2: 1, 0: 1, 1: 2}
        for rows in [list(DEAL), list(reversed(DEAL)), [(9, 9), (-4, None)], []]:
            names = list(NAMES)
            held = list(rows)
            is_deal(PLAN, keepers, names, rows)
            self.assertEqual(rows, held)
            self.assertEqual(names, NAMES)
            self.assertEqual(list(keepers.items()), [(2, 1), (0, 1), (1, 2)])


if __name__ == "__main__":
    unittest.main()
