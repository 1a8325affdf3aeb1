"""The promises over moves: who moves when a keeper or a name comes or goes, and that no order matters."""

import itertools
import unittest

from helper import deeds_of, pair_of, small_rings
from ringdeal.dealing import names_of
from ringdeal.story import answers, ring_after

# None of these are in the small rings; 36 and 48 share the places of others there.
NEW_KEEPERS = [(3, 1), (36, 2), (8, 4), (10**99, 1)]
NEW_NAMES = [2, 6, 48, 10**99]


class Change:
    """The ring ahead of a story's last deed and behind it, and what that deed was answered with."""

    def __init__(self, plan, deeds):
        self.plan = plan
        self.before, keepers = ring_after(plan, deeds[:-1])
        self.after, later = ring_after(plan, deeds)
        self.moves = answers(plan, deeds)[-1]
        # The shares of all that are there ahead or behind.
        self.shares = {**dict(keepers), **dict(later)}

    def ahead(self, name, one, other):
        """Whether the name's pair with the one is ahead of that with the other; None is behind all."""
        if one is None or other is None:
            return other is None and one is not None
        size = self.plan[0]
        return pair_of(size, self.shares, name, one) < pair_of(size, self.shares, name, other)

    def growth(self, keeper):
        return len(names_of(self.after, keeper)) - len(names_of(self.before, keeper))

    def arrived(self, keeper):
        return [name for name, _, goal in self.moves if goal == keeper]

    def left(self, keeper):
        return [name for name, source, _ in self.moves if source == keeper]


def small_changes(extra):
    for plan, keepers, names in small_rings():
        for new in extra:
            yield plan, keepers, names, new


class KeeperTest(unittest.TestCase):
    def test_a_keeper_comes(self):
        for plan, keepers, names, (keeper, share) in small_changes(NEW_KEEPERS):
            with self.subTest(plan=plan, keepers=keepers, names=names, new=keeper):
                change = Change(plan, deeds_of(keepers, names) + [("come", keeper, share)])
                for name, source, goal in change.moves:
                    self.assertTrue(change.ahead(name, goal, source))
                    if goal != keeper:
                        # A room that was left for each that comes.
                        self.assertLessEqual(len(change.arrived(goal)), len(change.left(goal)))
                for other in keepers:
                    self.assertLessEqual(change.growth(other), 0)
                self.assertEqual(change.left(keeper), [])

    def test_a_keeper_leaves(self):
        for plan, keepers, names, (keeper, share) in small_changes(NEW_KEEPERS):
            with self.subTest(plan=plan, keepers=keepers, names=names, new=keeper):
                deeds = deeds_of({**keepers, keeper: share}, names) + [("leave", keeper)]
                change = Change(plan, deeds)
                self.assertEqual(change.left(keeper), names_of(change.before, keeper))
                for name, source, goal in change.moves:
                    self.assertTrue(change.ahead(name, source, goal))
                    if source != keeper:
                        self.assertLessEqual(len(change.left(source)), len(change.arrived(source)))
                for other in keepers:
                    self.assertGreaterEqual(change.growth(other), 0)
                self.assertEqual(change.arrived(keeper), [])

    def test_one_that_comes_and_leaves_moves_all_back(self):
        for plan, keepers, names, (keeper, share) in small_changes(NEW_KEEPERS):
            with self.subTest(plan=plan, keepers=keepers, names=names, new=keeper):
                deeds = deeds_of(keepers, names)
                there = answers(plan, deeds + [("come", keeper, share), ("leave", keeper)])[-2:]
                self.assertEqual(there[1], [(name, goal, source) for name, source, goal in there[0]])

    def test_some_take_a_room_that_another_name_left(self):
        # Without such moves among the small rings the tests above would say little.
        taken = 0
        for plan, keepers, names, (keeper, share) in small_changes(NEW_KEEPERS):
            change = Change(plan, deeds_of(keepers, names) + [("come", keeper, share)])
            taken += len([goal for _, _, goal in change.moves if goal != keeper])
        self.assertGreater(taken, 20)


class NameTest(unittest.TestCase):
    def test_a_name_comes(self):
        for plan, keepers, names, new in small_changes(NEW_NAMES):
            with self.subTest(plan=plan, keepers=keepers, names=names, new=new):
                change = Change(plan, deeds_of(keepers, names) + [("put", new)])
                for name, source, goal in change.moves:
                    if name == new:
                        self.assertIsNone(source)
                        self.assertIsNotNone(goal)
                        continue
                    self.assertTrue(change.ahead(name, source, goal))
                    self.assertEqual(len(names_of(change.before, source)), plan[1] * keepers[source])
                    self.assertEqual(len(change.arrived(source)), 1)
                grown = [change.growth(keeper) for keeper in keepers if change.growth(keeper) > 0]
                self.assertIn(grown, [[], [1]])
                own = [goal for name, _, goal in change.moves if name == new]
                self.assertEqual(own, [goal for name, goal in change.after if name == new and goal is not None])

    def test_when_it_goes_again_all_go_back(self):
        for plan, keepers, names, new in small_changes(NEW_NAMES):
            with self.subTest(plan=plan, keepers=keepers, names=names, new=new):
                deeds = deeds_of(keepers, names)
                told = answers(plan, deeds + [("put", new), ("drop", new)])[-2:]
                back = [(name, goal, source) for name, source, goal in told[0] if name != new]
                self.assertEqual(told[1], back)
                self.assertEqual(ring_after(plan, deeds + [("put", new), ("drop", new)]), ring_after(plan, deeds))

    def test_some_are_pushed_on(self):
        pushed = 0
        for plan, keepers, names, new in small_changes(NEW_NAMES):
            change = Change(plan, deeds_of(keepers, names) + [("put", new)])
            pushed += len([name for name, _, goal in change.moves if name != new and goal is not None])
        self.assertGreater(pushed, 5)


class AnswersTest(unittest.TestCase):
    def test_the_moves_lead_from_each_deal_to_the_next(self):
        deeds = deeds_of({5: 2, 1: 1}, [24, 12, 0, 36, 7])
        deeds = deeds + [("come", 9, 1), ("drop", 12), ("leave", 5), ("put", 4), ("come", 5, 1), ("leave", 1)]
        for plan in [(1, 1), (12, 1), (12, 2), (60, 1)]:
            for count in range(1, len(deeds) + 1):
                with self.subTest(plan=plan, count=count):
                    change = Change(plan, deeds[:count])
                    had, has = dict(change.before), dict(change.after)
                    expected = [(name, had.get(name), has[name]) for name in sorted(has) if had.get(name) != has[name]]
                    self.assertEqual(change.moves, expected)


class OrderTest(unittest.TestCase):
    def test_in_which_order_they_came(self):
        deeds = deeds_of({0: 1, 12: 1, 4: 2}, [0, 3, 12])
        for plan in [(1, 1), (12, 1), (60, 1)]:
            ring = ring_after(plan, deeds)
            for other in itertools.permutations(deeds):
                self.assertEqual(ring_after(plan, list(other)), ring)

    def test_who_came_and_went_between(self):
        deeds = deeds_of({0: 1, 12: 1, 4: 2}, [0, 3, 12, 5])
        guests = [
            (("come", 24, 3), ("leave", 24)), (("come", 7, 1), ("leave", 7)),
            (("put", 24), ("drop", 24)), (("put", 1), ("drop", 1)),
        ]
        for plan in [(1, 1), (12, 1), (12, 2), (60, 1)]:
            ring = ring_after(plan, deeds)
            for comes, goes in guests:
                for one, other in itertools.combinations_with_replacement(range(len(deeds) + 1), 2):
                    story = deeds[:one] + [comes] + deeds[one:other] + [goes] + deeds[other:]
                    self.assertEqual(ring_after(plan, story), ring)

    def test_who_went_and_came_again(self):
        keepers = {0: 1, 12: 1, 4: 2}
        names = [0, 3, 12, 5]
        deeds = deeds_of(keepers, names)
        again = [[("leave", keeper), ("come", keeper, share)] for keeper, share in keepers.items()]
        again = again + [[("drop", name), ("put", name)] for name in names]
        for plan in [(1, 1), (12, 1), (60, 1)]:
            ring = ring_after(plan, deeds)
            for some in itertools.permutations(again, 2):
                self.assertEqual(ring_after(plan, deeds + some[0] + some[1]), ring)

    def test_with_another_share_between(self):
        deeds = [("come", 0, 3), ("put", 0), ("put", 3), ("leave", 0), ("come", 0, 1)]
        self.assertEqual(ring_after((60, 1), deeds), ring_after((60, 1), deeds_of({0: 1}, [3, 0])))


if __name__ == "__main__":
    unittest.main()
