import random
import unittest
from itertools import product

from plainly import all_pairs, every_net, is_told, reach, some_nets, ways_of
from waymusts.ways import is_way, least_way, reached

# Two sides from 0 to 5: by 1 and 3, or by 2 and 4; and 6, which leads in but isn't led to.
SIDES = (7, ((0, 1), (0, 2), (1, 3), (2, 4), (3, 5), (4, 5), (5, 0), (6, 0)))
LINE = (24, tuple((place, place + 1) for place in range(23)))
RING = (24, LINE[1] + ((23, 0),))
LONG = 10 ** 60 - 1


class IsWay(unittest.TestCase):
    def test_ways(self):
        for way in ((0,), (6,), (0, 1), (0, 1, 3, 5), (0, 2, 4, 5), (6, 0, 2), (4, 5, 0, 1, 3), (5, 0)):
            with self.subTest(way=way):
                self.assertIs(is_way(SIDES, way), True)
        self.assertIs(is_way((1, ()), (0,)), True)
        self.assertIs(is_way(LINE, tuple(range(24))), True)
        self.assertIs(is_way(RING, tuple(range(7, 24)) + tuple(range(7))), True)

    def test_no_ways(self):
        none = (
            (), (0, 0), (0, 1, 3, 5, 0), (7,), (-1,), (LONG,), (-LONG,), (0, 7), (7, 0), (0, 1, -1), (-7, -6), (1, 0),
            (0, 3), (0, 1, 5), (0, 1, 2), (0, 1, 3, 5, 0, 2), (5, 6), (0, 1, 3, 5, LONG), (-2, 0), (-1, 0, 1),
        )
        for thing in none:
            with self.subTest(thing=thing):
                self.assertIs(is_way(SIDES, thing), False)
        self.assertIs(is_way((1, ()), (1,)), False)
        self.assertIs(is_way((1, ()), ()), False)
        self.assertIs(is_way((2, ()), (0, 1)), False)
        self.assertIs(is_way(SIDES, [0, 1]), False)

    def test_long_tuples(self):
        for thing in ((0,) * 400, (0, 1) * 200, tuple(range(400)), tuple(range(24)) * 16, (LONG,) * 400):
            self.assertIs(is_way(RING, thing), False)
            self.assertIs(is_way(LINE, thing), False)

    def test_every_short_tuple(self):
        for net in [SIDES[:1] + (SIDES[1][:5],), (3, ((0, 1), (1, 2), (2, 0))), (2, ((1, 0),)), (1, ())]:
            right = {way for a, b in product(range(net[0]), repeat=2) for way in ways_of(net, a, b)}
            for size in range(5):
                for thing in product(range(-1, net[0] + 1), repeat=size):
                    self.assertIs(is_way(net, thing), thing in right)


class LeastWay(unittest.TestCase):
    def test_by_hand(self):
        self.assertEqual(least_way(SIDES, 0, 5, ()), (0, 1, 3, 5))
        self.assertEqual(least_way(SIDES, 0, 5, (3,)), (0, 2, 4, 5))
        self.assertEqual(least_way(SIDES, 0, 5, [1]), (0, 2, 4, 5))
        self.assertIsNone(least_way(SIDES, 0, 5, [1, 4]))
        self.assertIsNone(least_way(SIDES, 0, 6, ()))
        self.assertEqual(least_way(SIDES, 6, 4, [1, 3, 5]), (6, 0, 2, 4))
        # The fewest places go ahead of the least tuple, which goes ahead of the least last step.
        self.assertEqual(least_way((4, ((0, 1), (0, 3), (1, 2), (2, 3))), 0, 3, ()), (0, 3))
        self.assertEqual(least_way((5, ((0, 1), (0, 2), (1, 4), (2, 3), (3, 4), (4, 3))), 0, 3, ()), (0, 2, 3))
        self.assertEqual(least_way((6, ((0, 1), (0, 2), (1, 4), (2, 3), (3, 5), (4, 5))), 0, 5, ()), (0, 1, 4, 5))

    def test_from_a_place_to_itself(self):
        for place in range(7):
            self.assertEqual(least_way(SIDES, place, place, ()), (place,))
            self.assertEqual(least_way(SIDES, place, place, [other for other in range(7) if other != place]), (place,))
            self.assertIsNone(least_way(SIDES, place, place, (place,)))
        self.assertEqual(least_way((1, ()), 0, 0, []), (0,))
        self.assertIsNone(least_way((1, ()), 0, 0, [0]))

    def test_a_closed_end(self):
        self.assertIsNone(least_way(SIDES, 0, 5, [0]))
        self.assertIsNone(least_way(SIDES, 0, 5, [5]))
        self.assertIsNone(least_way(SIDES, 0, 5, (5, 0)))
        self.assertIsNone(least_way(SIDES, 0, 1, (0,)))
        self.assertIsNone(least_way(SIDES, 0, 1, (1,)))
        self.assertIsNone(least_way(SIDES, 0, 5, tuple(range(7))))

    def test_the_longest_way(self):
        self.assertEqual(least_way(LINE, 0, 23, []), tuple(range(24)))
        self.assertIsNone(least_way(LINE, 23, 0, []))
        self.assertEqual(least_way(RING, 12, 11, ()), tuple(range(12, 24)) + tuple(range(12)))

    def test_closed_as_list_and_tuple_told_twice_and_often(self):
        for closed in ([3, 3], (3, 3), [3] * 400, (3,) * 400, [3, 1] * 200, [1, 3, 6, 1, 6, 3]):
            before = closed[:]
            self.assertEqual(least_way(SIDES, 0, 5, closed), (0, 2, 4, 5))
            self.assertEqual(least_way(SIDES, 0, 5, closed), (0, 2, 4, 5))
            self.assertEqual(closed, before)
        self.assertIsNone(least_way(SIDES, 0, 5, [3, 6] * 199 + [4]))

    def test_against_all_ways(self):
        chance = random.Random(2)
        nets = list(every_net(3)) + list(some_nets(3, 150, 4, 7))
        for net in nets:
            for one, other in product(range(net[0]), repeat=2):
                closed = chance.choices(range(net[0]), k=chance.randint(0, 3))
                ways = [way for way in ways_of(net, one, other) if not set(way) & set(closed)]
                right = min(ways, key=lambda way: (len(way), way), default=None)
                self.assertEqual(least_way(net, one, other, closed), right)
                self.assertEqual(least_way(net, one, other, tuple(closed)), right)

    def test_large_nets(self):
        chance = random.Random(4)
        for net in some_nets(5, 60, 20, 24):
            for turn in range(40):
                one, other = chance.choices(range(net[0]), k=2)
                closed = chance.sample(range(net[0]), chance.randint(0, 8))
                told = least_way(net, one, other, closed)
                self.assertTrue(is_told(told))
                if other not in reach(net, one, closed):
                    self.assertIsNone(told)
                    continue
                self.assertTrue(is_way(net, told))
                self.assertEqual((told[0], told[-1]), (one, other))
                self.assertFalse(set(told) & set(closed))


class Reached(unittest.TestCase):
    def test_by_hand(self):
        self.assertEqual(reached((1, ()), 0), (0,))
        self.assertEqual(reached((24, ()), 23), (23,))
        self.assertEqual(reached(SIDES, 0), (0, 1, 2, 3, 4, 5))
        self.assertEqual(reached(SIDES, 6), (0, 1, 2, 3, 4, 5, 6))
        self.assertEqual(reached((4, ((1, 0), (2, 3), (3, 1))), 2), (0, 1, 2, 3))
        self.assertEqual(reached((4, ((1, 0), (2, 3), (3, 1))), 1), (0, 1))
        self.assertEqual(reached(LINE, 7), tuple(range(7, 24)))
        self.assertEqual(reached(RING, 7), tuple(range(24)))

    def test_against_growing(self):
        for net in list(every_net(3)) + list(some_nets(6, 200, 4, 24)) + [(24, tuple(all_pairs(24)[:120]))]:
            for gate in range(net[0]):
                told = reached(net, gate)
                self.assertTrue(is_told(told))
                self.assertEqual(told, tuple(sorted(reach(net, gate))))
                self.assertEqual(reached(net, gate), told)


if __name__ == "__main__":
    unittest.main()
