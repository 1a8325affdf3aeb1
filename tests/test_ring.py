import itertools
import unittest

from helper import plain_way, small_rings, walked_steps
from ringdeal.ring import pairs_of, place_of, posts_of, room_of, steps, way_to


class PlaceTest(unittest.TestCase):
    def test_places_by_hand(self):
        # 31 * n * n + 7 * n is 0, 38, 138, 300, 524, 810 for the names 0 to 5.
        rings = {
            1: [0, 0, 0, 0, 0, 0],
            7: [0, 3, 5, 6, 6, 5],
            12: [0, 2, 6, 0, 8, 6],
            60: [0, 38, 18, 0, 44, 30],
            1000: [0, 38, 138, 300, 524, 810],
        }
        for size, places in rings.items():
            with self.subTest(size):
                self.assertEqual([place_of(size, name) for name in range(6)], places)

    def test_a_ring_of_dozens_of_figures(self):
        self.assertEqual(place_of(10**40, 10**20), 7 * 10**20)
        self.assertEqual(place_of(10**40 - 1, 10**20), 7 * 10**20 + 31)
        self.assertEqual(place_of(10**40, 5), 810)

    def test_numbers_of_a_hundred_figures(self):
        # The name 10 ** 99 is one less than the size, so it stands where -1 would: 31 - 7.
        self.assertEqual(place_of(10**99 + 1, 10**99), 24)
        self.assertEqual(place_of(10**99 + 1, 10**99 + 2), 38)
        self.assertEqual(place_of(7, 10**100 - 1), place_of(7, (10**100 - 1) % 7))

    def test_the_place_just_at_the_size(self):
        self.assertEqual(place_of(38, 1), 0)
        self.assertEqual(place_of(39, 1), 38)


class PostsTest(unittest.TestCase):
    def test_posts_by_hand(self):
        # On a ring that is large enough: keeper 0 at 13, 107, 307, 613; keeper 1 further on by 97.
        cases = [
            (1000, 0, 4, [13, 107, 307, 613]),
            (1000, 1, 4, [110, 204, 404, 710]),
            (1, 5, 3, [0, 0, 0]),
            (7, 0, 4, [6, 2, 6, 4]),
            (12, 0, 4, [1, 11, 7, 1]),
            (12, 1, 4, [2, 0, 8, 2]),
            (60, 0, 4, [13, 47, 7, 13]),
            (60, 1, 2, [50, 24]),
            (60, 2, 3, [27, 1, 21]),
        ]
        for size, keeper, share, posts in cases:
            with self.subTest(size=size, keeper=keeper):
                self.assertEqual(posts_of(size, keeper, share), posts)

    def test_one_post_for_a_share_of_one(self):
        self.assertEqual(posts_of(60, 3, 1), [4])

    def test_a_thousand_posts_and_some_beyond(self):
        self.assertEqual(len(posts_of(60, 3, 1000)), 1000)
        self.assertEqual(posts_of(10**9, 0, 1000)[999], 53 * 999 * 999 + 41 * 999 + 13)
        self.assertEqual(posts_of(10**9, 0, 1100)[1099], 53 * 1099 * 1099 + 41 * 1099 + 13)

    def test_large_numbers(self):
        self.assertEqual(posts_of(10**40, 10**40 + 1, 2), [110, 204])
        self.assertEqual(posts_of(10**99 + 1, 10**99, 2), [10**99 + 1 - 84, 10])
        self.assertEqual(posts_of(10**99, 10**98, 1), [7 * 10**98 + 13])


class StepsTest(unittest.TestCase):
    def test_steps_by_hand(self):
        cases = [
            (1, 0, 0, 0),
            (7, 0, 0, 0),
            (7, 3, 3, 0),
            (7, 6, 6, 0),
            (7, 3, 4, 1),
            (7, 6, 0, 1),
            (7, 4, 3, 6),
            (7, 0, 6, 6),
            (12, 2, 11, 9),
            (12, 11, 2, 3),
            (60, 44, 13, 29),
            (60, 13, 44, 31),
            (10**40, 10**40 - 1, 0, 1),
            (10**40, 1, 0, 10**40 - 1),
            (10**99 + 1, 10**99, 5, 6),
            (10**99 + 1, 5, 10**99, 10**99 - 5),
        ]
        for size, one, other, count in cases:
            with self.subTest(size=size, one=one, other=other):
                self.assertEqual(steps(size, one, other), count)

    def test_steps_as_they_are_walked(self):
        for size in [1, 2, 7, 12]:
            for one, other in itertools.product(range(size), repeat=2):
                with self.subTest(size=size, one=one, other=other):
                    self.assertEqual(steps(size, one, other), walked_steps(size, one, other))
                    self.assertLess(steps(size, one, other), size)


class WayTest(unittest.TestCase):
    def test_one_post(self):
        self.assertEqual(way_to(60, 0, 0, 1), 13)
        self.assertEqual(way_to(60, 1, 0, 1), 35)
        self.assertEqual(way_to(60, 4, 0, 1), 29)

    def test_a_later_post_is_the_nearest(self):
        # Keeper 1 has its posts at 50, 24, 44; name 2 is at 18, name 4 at 44, name 1 at 38.
        self.assertEqual(way_to(60, 2, 1, 1), 32)
        self.assertEqual(way_to(60, 2, 1, 2), 6)
        self.assertEqual(way_to(60, 4, 1, 2), 6)
        self.assertEqual(way_to(60, 4, 1, 3), 0)
        self.assertEqual(way_to(60, 1, 1, 3), 6)

    def test_across_the_last_place(self):
        # Keeper 2 has its posts at 27, 1, 21: behind all three the way goes to the one at 1.
        self.assertEqual(way_to(60, 1, 2, 3), 23)
        self.assertEqual(way_to(60, 5, 2, 3), 31)

    def test_a_post_at_the_name_itself(self):
        self.assertEqual(way_to(1, 4, 9, 2), 0)
        self.assertEqual(way_to(12, 0, 1, 2), 0)

    def test_a_post_just_behind_the_name(self):
        # Name 1 is at 2, keeper 0 at 1.
        self.assertEqual(way_to(12, 1, 0, 1), 11)

    def test_large_numbers(self):
        self.assertEqual(way_to(10**99 + 1, 0, 10**99, 1), 10**99 + 1 - 84)
        self.assertEqual(way_to(10**99 + 1, 0, 10**99, 2), 10)

    def test_the_least_of_the_steps_to_all_posts(self):
        for size in [1, 2, 7, 12, 60, 997, 10**30 + 57]:
            for name, keeper, share in itertools.product([0, 1, 5, 38, 10**99], [0, 1, 12, 10**99], [1, 2, 3, 8, 40]):
                with self.subTest(size=size, name=name, keeper=keeper, share=share):
                    place = place_of(size, name)
                    counts = [steps(size, place, post) for post in posts_of(size, keeper, share)]
                    self.assertEqual(way_to(size, name, keeper, share), min(counts))


class PairsTest(unittest.TestCase):
    def test_pairs_by_hand(self):
        # Names 0 to 5 at 0, 38, 18, 0, 44, 30; keeper 0 at 13, keeper 1 at 50 and 24, keeper 2 at 27.
        self.assertEqual(
            pairs_of(60, {0: 1, 1: 2, 2: 1}, [0, 1, 2, 3, 4, 5]),
            [
                (6, 2, 1), (6, 4, 1), (9, 2, 2), (12, 1, 1), (13, 0, 0), (13, 3, 0),
                (20, 5, 1), (24, 0, 1), (24, 3, 1), (27, 0, 2), (27, 3, 2), (29, 4, 0),
                (35, 1, 0), (43, 4, 2), (43, 5, 0), (49, 1, 2), (55, 2, 0), (57, 5, 2),
            ],
        )

    def test_of_the_same_way_by_the_name_then_by_the_keeper(self):
        # On a ring of 1 all ways are nought.
        expected = [(0, name, keeper) for name in [2, 9, 10] for keeper in [3, 20, 100]]
        for names in itertools.permutations([2, 9, 10]):
            for keepers in itertools.permutations([(3, 1), (20, 2), (100, 1)]):
                with self.subTest(names=names, keepers=keepers):
                    self.assertEqual(pairs_of(1, dict(keepers), list(names)), expected)

    def test_the_way_goes_ahead_of_the_name(self):
        # Names 3 and 4 at 0 and 8 of 12, keeper 0 at 1, keeper 12 there too.
        self.assertEqual(
            pairs_of(12, {12: 1, 0: 1}, [4, 3]),
            [(1, 3, 0), (1, 3, 12), (5, 4, 0), (5, 4, 12)],
        )
        # Name 1 at 2 has the longer way than name 4.
        self.assertEqual(pairs_of(12, {0: 1}, [1, 4]), [(5, 4, 0), (11, 1, 0)])

    def test_any_order_handed_in(self):
        keepers = [(5, 2), (1, 1), (9, 3)]
        names = [4, 0, 7, 3]
        expected = pairs_of(12, dict(keepers), names)
        self.assertEqual(expected, sorted(expected))
        for some in itertools.permutations(keepers):
            for others in itertools.permutations(names):
                self.assertEqual(pairs_of(12, dict(some), list(others)), expected)

    def test_no_names_and_no_keepers(self):
        self.assertEqual(pairs_of(60, {0: 1, 1: 2}, []), [])
        self.assertEqual(pairs_of(60, {}, [0, 1]), [])
        self.assertEqual(pairs_of(60, {}, []), [])

    def test_numbers_of_a_hundred_figures(self):
        # Names 10 ** 99 and 0 at 24 and 0; keeper 10 ** 99 at 84 short of the size and at 10, keeper 0 at 13.
        size = 10**99 + 1
        self.assertEqual(
            pairs_of(size, {10**99: 2, 0: 1}, [10**99, 0]),
            [(10, 0, 10**99), (13, 0, 0), (size - 108, 10**99, 10**99), (size - 11, 10**99, 0)],
        )

    def test_every_pair_once_with_its_way(self):
        for plan, keepers, names in small_rings():
            with self.subTest(size=plan[0], keepers=keepers, names=names):
                expected = sorted(
                    (plain_way(plan[0], name, keeper, share), name, keeper)
                    for name in names
                    for keeper, share in keepers.items()
                )
                self.assertEqual(pairs_of(plan[0], keepers, names), expected)

    def test_nothing_handed_in_is_changed(self):
        keepers = {9: 3, 2: 1, 4: 2}
        names = [5, 1, 4, 0]
        pairs_of(12, keepers, names)
        self.assertEqual(list(keepers.items()), [(9, 3), (2, 1), (4, 2)])
        self.assertEqual(names, [5, 1, 4, 0])

    def test_somewhat_beyond_the_bounds(self):
        size = 10**100 + 267
        keepers = {10**100 + keeper: 1000 + keeper for keeper in range(105)}
        names = [10**101 - name for name in range(155)]
        pairs = pairs_of(size, keepers, names)
        self.assertEqual(len(pairs), 105 * 155)
        self.assertEqual(pairs, sorted(pairs))
        for way, name, keeper in pairs[::400]:
            self.assertEqual(way, plain_way(size, name, keeper, keepers[keeper]))


class RoomTest(unittest.TestCase):
    def test_each_and_the_share_multiplied(self):
        self.assertEqual(room_of(1, 1), 1)
        self.assertEqual(room_of(3, 1), 3)
        self.assertEqual(room_of(1, 4), 4)
        self.assertEqual(room_of(3, 4), 12)
        self.assertEqual(room_of(10**99, 1000), 10**102)


if __name__ == "__main__":
    unittest.main()
