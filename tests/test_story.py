import copy
import itertools
import random
import unittest

from helper import deeds_of, plain_story
from ringdeal.story import answers, ring_after

# On a ring of 60 the names 0 to 5 are at 0, 38, 18, 0, 44, 30; keeper 0 with one post at 13,
# keeper 1 with two at 50 and 24, keeper 2 with one at 27.
PLAN = (60, 1)
ZERO = ("come", 0, 1)
ONE = ("come", 1, 2)
TWO = ("come", 2, 1)
TEXTS = ["keeper there", "no share", "no keeper", "name there", "no name"]


def last_answer(deeds, plan=PLAN):
    return answers(plan, deeds)[-1]


class ComeTest(unittest.TestCase):
    def test_no_names_no_moves(self):
        self.assertEqual(answers(PLAN, [ZERO, ONE]), [[], []])

    def test_names_that_had_none(self):
        self.assertEqual(last_answer([("put", 3), ("put", 0), ZERO]), [(0, None, 0)])
        self.assertEqual(last_answer([("put", 3), ("put", 0), ZERO], (60, 2)), [(0, None, 0), (3, None, 0)])

    def test_names_that_had_another(self):
        # Name 2 has 55 steps to keeper 0 and 6 to keeper 1; name 0 stays.
        self.assertEqual(last_answer([ZERO, ("put", 0), ("put", 2), ONE], (60, 2)), [(2, 0, 1)])

    def test_a_room_that_another_name_left(self):
        # Keepers 0 and 2 have the names 0 and 2; name 2 goes to keeper 1, and name 3 takes its room.
        deeds = [ZERO, TWO] + deeds_of({}, [0, 1, 2, 3, 4, 5]) + [ONE]
        self.assertEqual(last_answer(deeds), [(2, 2, 1), (3, None, 2), (4, None, 1)])

    def test_nobody_moves(self):
        # Keeper 2 is behind keeper 0 for both names, and there is room.
        self.assertEqual(last_answer([ZERO, ("put", 0), ("put", 3), TWO], (60, 2)), [])

    def test_keeper_there(self):
        for share in [1, 2, 1000]:
            self.assertEqual(last_answer([ZERO, ("come", 0, share)]), "keeper there")

    def test_keeper_there_goes_ahead_of_no_share(self):
        for share in [0, -1, -(10**99)]:
            self.assertEqual(last_answer([ZERO, ("come", 0, share)]), "keeper there")

    def test_no_share(self):
        for share in [0, -1, -1000, -(10**99)]:
            self.assertEqual(answers(PLAN, [("come", 0, share)]), ["no share"])
            self.assertEqual(last_answer([ZERO, ("come", 1, share)]), "no share")

    def test_a_share_of_one(self):
        self.assertEqual(answers(PLAN, [("come", 0, 1)]), [[]])

    def test_no_share_leaves_the_keeper_away(self):
        deeds = [("come", 0, 0), ("come", 0, -3), ("leave", 0), ("put", 0), ("come", 0, 1)]
        self.assertEqual(answers(PLAN, deeds), ["no share", "no share", "no keeper", [], [(0, None, 0)]])

    def test_again_with_another_share(self):
        deeds = [("put", 0), ("put", 3), ("come", 0, 1), ("leave", 0), ("come", 0, 2)]
        told = answers(PLAN, deeds)
        self.assertEqual(told[2:], [[(0, None, 0)], [(0, 0, None)], [(0, None, 0), (3, None, 0)]])
        self.assertEqual(ring_after(PLAN, deeds)[1], [(0, 2)])


class LeaveTest(unittest.TestCase):
    def test_names_move_on_and_some_get_none(self):
        # Name 2 moves on to keeper 2 and pushes name 3 off; name 4 finds no room.
        deeds = [ZERO, ONE, TWO] + deeds_of({}, [0, 1, 2, 3, 4, 5]) + [("leave", 1)]
        self.assertEqual(last_answer(deeds), [(2, 1, 2), (3, 2, None), (4, 1, None)])

    def test_all_move_on(self):
        deeds = [ZERO, ONE, ("put", 0), ("put", 3), ("leave", 0)]
        self.assertEqual(last_answer(deeds, (60, 2)), [(0, 0, 1), (3, 0, 1)])

    def test_the_last_keeper(self):
        deeds = [ZERO, ("put", 3), ("put", 0), ("leave", 0)]
        self.assertEqual(last_answer(deeds, (60, 2)), [(0, 0, None), (3, 0, None)])

    def test_a_keeper_without_names(self):
        self.assertEqual(last_answer([ZERO, TWO, ("put", 0), ("leave", 2)]), [])

    def test_no_keeper(self):
        self.assertEqual(answers(PLAN, [("leave", 0)]), ["no keeper"])
        self.assertEqual(last_answer([ZERO, ("leave", 1)]), "no keeper")
        self.assertEqual(last_answer([ZERO, ("leave", 0), ("leave", 0)]), "no keeper")

    def test_a_name_is_no_keeper(self):
        self.assertEqual(last_answer([ZERO, ("put", 3), ("leave", 3)]), "no keeper")


class PutTest(unittest.TestCase):
    def test_it_gets_a_keeper(self):
        self.assertEqual(last_answer([ZERO, ("put", 0)]), [(0, None, 0)])
        self.assertEqual(last_answer([ZERO, ONE, ("put", 0), ("put", 3)]), [(3, None, 1)])

    def test_it_gets_none(self):
        self.assertEqual(answers(PLAN, [("put", 0)]), [[]])
        self.assertEqual(last_answer([ZERO, ("put", 0), ("put", 3)]), [])

    def test_it_pushes_another_off(self):
        self.assertEqual(last_answer([ZERO, ("put", 3), ("put", 0)]), [(0, None, 0), (3, 0, None)])

    def test_it_pushes_others_on(self):
        # Name 0 takes keeper 0 from name 3, which goes on to keeper 2, 27 steps on; name 4 stays.
        deeds = [ZERO, ("come", 1, 1), TWO, ("put", 3), ("put", 4), ("put", 0)]
        self.assertEqual(last_answer(deeds), [(0, None, 0), (3, 0, 2)])
        # Name 2 is nearer to keeper 2 than name 3, which then finds none.
        self.assertEqual(last_answer(deeds + [("put", 2)]), [(2, None, 2), (3, 2, None)])

    def test_it_pushes_one_that_pushes_one(self):
        # Keepers 0 and 2, one room each: name 3 at keeper 0, name 5 at keeper 2 with 57 steps.
        # Name 0 takes keeper 0; name 3 has 27 steps to keeper 2 and takes that from name 5.
        deeds = [ZERO, TWO, ("put", 3), ("put", 5), ("put", 0)]
        self.assertEqual(last_answer(deeds), [(0, None, 0), (3, 0, 2), (5, 2, None)])

    def test_name_there(self):
        self.assertEqual(last_answer([("put", 0), ("put", 0)]), "name there")
        self.assertEqual(last_answer([ZERO, ("put", 0), ("put", 0)]), "name there")

    def test_a_keeper_is_no_name(self):
        self.assertEqual(last_answer([ZERO, ("put", 0)]), [(0, None, 0)])


class DropTest(unittest.TestCase):
    def test_names_move_back(self):
        self.assertEqual(last_answer([ZERO, ("put", 3), ("put", 0), ("drop", 0)]), [(3, None, 0)])
        deeds = [ZERO, TWO, ("put", 3), ("put", 5), ("put", 0), ("drop", 0)]
        self.assertEqual(last_answer(deeds), [(3, 2, 0), (5, None, 2)])

    def test_its_own_move_is_not_told(self):
        self.assertEqual(last_answer([ZERO, ("put", 0), ("drop", 0)]), [])

    def test_a_name_without_a_keeper(self):
        self.assertEqual(last_answer([ZERO, ("put", 0), ("put", 3), ("drop", 3)]), [])
        self.assertEqual(last_answer([("put", 0), ("drop", 0)]), [])

    def test_no_name(self):
        self.assertEqual(answers(PLAN, [("drop", 0)]), ["no name"])
        self.assertEqual(last_answer([ZERO, ("put", 0), ("drop", 3)]), "no name")
        self.assertEqual(last_answer([ZERO, ("put", 0), ("drop", 0), ("drop", 0)]), "no name")

    def test_a_keeper_is_no_name(self):
        self.assertEqual(last_answer([ZERO, ("drop", 0)]), "no name")

    def test_it_may_come_again(self):
        deeds = [ZERO, ("put", 0), ("drop", 0), ("put", 0), ("put", 0)]
        self.assertEqual(answers(PLAN, deeds)[3:], [[(0, None, 0)], "name there"])


class WhereTest(unittest.TestCase):
    def test_with_a_keeper(self):
        self.assertEqual(last_answer([ONE, ("put", 0), ("where", 0)]), 1)

    def test_with_keeper_nought(self):
        told = last_answer([ZERO, ("put", 0), ("where", 0)])
        self.assertEqual(told, 0)
        self.assertIsNotNone(told)

    def test_with_none(self):
        self.assertIsNone(last_answer([("put", 0), ("where", 0)]))
        self.assertIsNone(last_answer([ZERO, ("put", 0), ("put", 3), ("where", 3)]))

    def test_no_name(self):
        self.assertEqual(answers(PLAN, [("where", 0)]), ["no name"])
        self.assertEqual(last_answer([ZERO, ("where", 0)]), "no name")
        self.assertEqual(last_answer([ZERO, ("put", 0), ("drop", 0), ("where", 0)]), "no name")

    def test_behind_each_change(self):
        where = ("where", 3)
        deeds = [("put", 3), where, TWO, where, ZERO, where, ("put", 0), where, ("leave", 2), where, ("drop", 0), where]
        self.assertEqual(answers(PLAN, deeds)[1::2], [None, 2, 0, 2, None, 0])


class RingAfterTest(unittest.TestCase):
    def test_no_deeds(self):
        self.assertEqual(answers(PLAN, []), [])
        self.assertEqual(ring_after(PLAN, []), ([], []))

    def test_keepers_alone_and_names_alone(self):
        self.assertEqual(ring_after(PLAN, [ONE, ZERO]), ([], [(0, 1), (1, 2)]))
        self.assertEqual(ring_after(PLAN, [("put", 5), ("put", 2)]), ([(2, None), (5, None)], []))

    def test_the_deal_and_the_keepers(self):
        deeds = [TWO, ZERO, ONE] + deeds_of({}, [5, 3, 1, 0, 2, 4])
        rows = [(0, 0), (1, None), (2, 1), (3, 2), (4, 1), (5, None)]
        self.assertEqual(ring_after(PLAN, deeds), (rows, [(0, 1), (1, 2), (2, 1)]))
        self.assertEqual(
            ring_after(PLAN, deeds + [("leave", 1), ("drop", 0)]),
            ([(1, None), (2, 2), (3, 0), (4, None), (5, None)], [(0, 1), (2, 1)]),
        )

    def test_keepers_by_their_numbers(self):
        deeds = [("come", keeper, share) for keeper, share in [(100, 1), (9, 5), (10**99, 2), (0, 7), (10, 3)]]
        self.assertEqual(ring_after(PLAN, deeds)[1], [(0, 7), (9, 5), (10, 3), (100, 1), (10**99, 2)])

    def test_all_come_and_go(self):
        deeds = [ZERO, ("put", 0), ("leave", 0), ("drop", 0)]
        self.assertEqual(ring_after(PLAN, deeds), ([], []))

    def test_kinds(self):
        ring = ring_after(PLAN, [ZERO, ("put", 0)])
        self.assertIs(type(ring), tuple)
        self.assertEqual([type(part) for part in ring], [list, list])
        self.assertIs(type(ring[0][0]), tuple)
        self.assertIs(type(ring[1][0]), tuple)
        told = answers(PLAN, [ZERO, ("put", 0)])
        self.assertIs(type(told), list)
        self.assertIs(type(told[1]), list)
        self.assertIs(type(told[1][0]), tuple)

    def test_a_keeper_that_is_there_keeps_its_share(self):
        self.assertEqual(ring_after(PLAN, [ONE, ("come", 1, 5), ("come", 1, 0)])[1], [(1, 2)])


class ManyStoriesTest(unittest.TestCase):
    DEEDS = [
        ("come", 0, 1), ("come", 0, 0), ("come", 12, 2), ("leave", 0), ("leave", 12),
        ("put", 0), ("put", 3), ("put", 12), ("drop", 0), ("drop", 3), ("where", 3),
    ]

    def hold(self, plan, deeds):
        told, rows, keepers = plain_story(plan, deeds)
        if answers(plan, deeds) != told or ring_after(plan, deeds) != (rows, keepers):
            self.fail(f"{plan} {deeds}")
        return told

    def test_every_short_story(self):
        for length in range(5):
            for deeds in itertools.product(self.DEEDS, repeat=length):
                self.hold((12, 1), list(deeds))

    def longer_stories(self):
        chosen = random.Random(14)
        for _ in range(150):
            plan = (chosen.choice([1, 7, 12, 60, 997, 10**30 + 57]), chosen.choice([1, 1, 2]))
            deeds = []
            for _ in range(40):
                word = chosen.choice(["come", "come", "leave", "put", "put", "put", "drop", "where"])
                number = chosen.randrange(6 if word in ["come", "leave"] else 12)
                deeds.append((word, number, chosen.randrange(-1, 4)) if word == "come" else (word, number))
            yield plan, deeds

    def test_longer_stories(self):
        seen = {}
        for plan, deeds in self.longer_stories():
            for told in self.hold(plan, deeds):
                if isinstance(told, str):
                    seen[told] = True
        self.assertEqual(sorted(seen), sorted(TEXTS))

    def test_a_deed_answered_with_a_text_changes_nothing(self):
        for plan, deeds in self.longer_stories():
            told = answers(plan, deeds)
            done = [place for place in range(len(deeds)) if not isinstance(told[place], str)]
            kept = [deeds[place] for place in done]
            self.assertEqual(answers(plan, kept), [told[place] for place in done])
            self.assertEqual(ring_after(plan, kept), ring_after(plan, deeds))

    def test_each_text_by_itself_changes_nothing(self):
        deeds = [ZERO, TWO, ("put", 3), ("put", 0)]
        ring = ring_after(PLAN, deeds)
        refused = [
            ("come", 0, 3), ("come", 0, 0), ("come", 1, 0), ("come", 1, -7), ("leave", 1), ("leave", 3),
            ("put", 0), ("put", 3), ("drop", 2), ("where", 2),
        ]
        for deed in refused:
            with self.subTest(deed):
                self.assertIn(last_answer(deeds + [deed]), TEXTS)
                self.assertEqual(ring_after(PLAN, deeds + [deed]), ring)
                rest = [("put", 2), ("come", 1, 2), ("leave", 0), ("drop", 0)]
                self.assertEqual(answers(PLAN, deeds + [deed] + rest)[5:], answers(PLAN, deeds + rest)[4:])


class BoundsTest(unittest.TestCase):
    def test_numbers_of_a_hundred_figures(self):
        # Name 0 at 0 has 10 steps to the second post of keeper 10 ** 99 and 13 to keeper 0.
        plan = (10**99 + 1, 1)
        deeds = [("put", 0), ("come", 0, 1), ("come", 10**99, 2), ("put", 10**99), ("where", 0), ("leave", 10**99)]
        self.assertEqual(
            answers(plan, deeds),
            [[], [(0, None, 0)], [(0, 0, 10**99)], [(10**99, None, 10**99)], 10**99,
             [(0, 10**99, 0), (10**99, 10**99, None)]],
        )
        self.assertEqual(ring_after(plan, deeds), ([(0, 0), (10**99, None)], [(0, 1)]))

    def test_somewhat_beyond_the_bounds(self):
        plan = (10**100 + 267, 1)
        keepers = {10**100 + 7 * keeper: 1 + keeper % 2 for keeper in range(30)}
        names = [10**101 - 3 * name for name in range(60)]
        deeds = deeds_of({**keepers, 3: 1005}, names) + [("leave", 3)] + [("drop", name) for name in names[:15]]
        self.assertGreater(len(deeds), 105)
        told, rows, held = plain_story(plan, deeds)
        self.assertEqual(answers(plan, deeds), told)
        self.assertEqual(ring_after(plan, deeds), (rows, held))

    def test_nothing_handed_in_is_changed(self):
        deeds = [TWO, ZERO, ZERO, ("come", 1, 0), ("put", 3), ("put", 0), ("where", 0), ("drop", 0), ("leave", 2)]
        held = copy.deepcopy(deeds)
        for work in [answers, ring_after]:
            with self.subTest(work.__name__):
                first = work(PLAN, deeds)
                self.assertEqual(deeds, held)
                # Nothing is kept from one story to another one either.
                self.assertEqual(work(PLAN, deeds), first)


if __name__ == "__main__":
    unittest.main()
