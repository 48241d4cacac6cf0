import random
import unittest
from itertools import combinations

from plainly import all_pairs, every_net, is_told, net_of, reach, round_nets, shaped_nets, some_nets
from waymusts.apart import blockers, lane_blockers, lanes_apart, ways_apart
from waymusts.nets import turned
from waymusts.ways import is_way

LINE = (24, tuple((place, place + 1) for place in range(23)))
WIDE = net_of(24, [(0, place) for place in range(1, 23)] + [(place, 23) for place in range(1, 23)])
THICK = net_of(11, all_pairs(11))
# Two rows, 0 1 2 3 and 0 4 5 3, with a lane from 1 to 5 that leads a first, shortest way across both.
CROSSED = net_of(6, [(0, 1), (1, 2), (2, 3), (0, 4), (4, 5), (5, 3), (1, 5)])

# Nets, with two places each, in which the lanes that the ways use may lead round, if ways are sought shortest first.
LEADING_ROUND = (
    ((10, ((0, 8), (1, 6), (2, 5), (3, 2), (4, 3), (4, 9), (5, 8), (7, 1), (8, 6), (8, 9), (9, 0), (9, 7))), 4, 6),
    ((11, ((0, 1), (0, 2), (1, 6), (2, 5), (4, 0), (4, 9), (5, 0), (5, 3), (6, 7), (7, 3), (8, 5), (9, 10), (10, 8))),
     4, 3),
    ((12, ((0, 1), (0, 6), (1, 5), (1, 7), (3, 7), (4, 0), (5, 9), (6, 8), (7, 0), (7, 2), (8, 2), (9, 2), (10, 4),
           (11, 1), (11, 3), (11, 10))), 11, 2),
    ((11, ((1, 9), (2, 6), (2, 8), (3, 2), (4, 0), (5, 10), (6, 10), (7, 1), (7, 2), (7, 8), (8, 0), (8, 4), (9, 5),
           (10, 0), (10, 3))), 7, 0),
    ((10, ((0, 2), (0, 9), (2, 1), (2, 6), (3, 1), (4, 5), (4, 7), (4, 8), (5, 0), (6, 1), (6, 8), (7, 0), (8, 2),
           (8, 3), (9, 6))), 4, 1),
)


def steps(way):
    return list(zip(way, way[1:]))


def without(net, lanes):
    return (net[0], tuple(lane for lane in net[1] if lane not in lanes))


def fewest(things, blocks):
    """How many of some things are the fewest that block, by trying all."""
    return next(many for many in range(len(things) + 1) for some in combinations(things, many) if blocks(some))


class Checked(unittest.TestCase):
    def check_ways(self, net, one, other, ways):
        self.assertTrue(is_told(ways))
        for way in ways:
            self.assertTrue(is_way(net, way), way)
            self.assertEqual((way[0], way[-1]), (one, other))
        self.assertEqual(len(set(ways)), len(ways))

    def check_places(self, net, one, other):
        ways, blocking = ways_apart(net, one, other), blockers(net, one, other)
        self.check_ways(net, one, other, ways)
        between = [place for way in ways for place in way[1:-1]]
        self.assertEqual(len(set(between)), len(between))
        if (one, other) in net[1]:
            self.assertIsNone(blocking)
            self.assertEqual(len(ways), 1 + len(ways_apart(without(net, [(one, other)]), one, other)))
            self.assertIn((one, other), ways)
            return len(ways)
        self.assertTrue(is_told(blocking))
        self.assertEqual(list(blocking), sorted(set(blocking)))
        self.assertFalse({one, other} & set(blocking))
        self.assertNotIn(other, reach(net, one, blocking))
        # As many ways as blockers: more ways, or fewer blockers, there can't be.
        self.assertEqual(len(ways), len(blocking))
        return len(ways)

    def check_lanes(self, net, one, other):
        ways, blocking = lanes_apart(net, one, other), lane_blockers(net, one, other)
        self.check_ways(net, one, other, ways)
        used = [lane for way in ways for lane in steps(way)]
        self.assertEqual(len(set(used)), len(used))
        self.assertTrue(is_told(blocking))
        self.assertEqual(list(blocking), sorted(set(blocking)))
        self.assertLessEqual(set(blocking), set(net[1]))
        self.assertNotIn(other, reach(without(net, blocking), one))
        self.assertEqual(len(ways), len(blocking))
        if (one, other) in net[1]:
            self.assertIn((one, other), blocking)
        return len(ways)

    def check(self, net, one, other):
        many, by_lanes = self.check_places(net, one, other), self.check_lanes(net, one, other)
        self.assertLessEqual(many, by_lanes)
        self.assertEqual(many == 0, other not in reach(net, one))
        return many, by_lanes


class ByHand(Checked):
    def test_crossed(self):
        self.assertEqual(sorted(ways_apart(CROSSED, 0, 3)), [(0, 1, 2, 3), (0, 4, 5, 3)])
        self.assertEqual(sorted(lanes_apart(CROSSED, 0, 3)), [(0, 1, 2, 3), (0, 4, 5, 3)])
        self.assertEqual(ways_apart(CROSSED, 1, 5), ((1, 5),))
        self.assertIsNone(blockers(CROSSED, 1, 5))
        self.assertEqual(lane_blockers(CROSSED, 1, 5), ((1, 5),))
        self.assertEqual(ways_apart(CROSSED, 3, 0), ())
        self.assertEqual(blockers(CROSSED, 3, 0), ())
        self.assertEqual(lanes_apart(CROSSED, 3, 0), ())
        self.assertEqual(lane_blockers(CROSSED, 3, 0), ())
        for one, other in all_pairs(6):
            self.check(CROSSED, one, other)

    def test_a_waist(self):
        # Two ways apart by lanes, both by 3.
        net = net_of(7, [(0, 1), (0, 2), (1, 3), (2, 3), (3, 4), (3, 5), (4, 6), (5, 6)])
        self.assertEqual(blockers(net, 0, 6), (3,))
        self.assertEqual(len(ways_apart(net, 0, 6)), 1)
        self.assertEqual(len(lanes_apart(net, 0, 6)), 2)
        self.assertEqual(len(lane_blockers(net, 0, 6)), 2)
        self.assertEqual(len(lane_blockers(net, 0, 3)), 2)
        self.assertEqual(blockers(net, 0, 3), (1, 2))

    def test_two_places(self):
        self.assertEqual(ways_apart((2, ((0, 1),)), 0, 1), ((0, 1),))
        self.assertIsNone(blockers((2, ((0, 1),)), 0, 1))
        self.assertEqual(lanes_apart((2, ((0, 1),)), 0, 1), ((0, 1),))
        self.assertEqual(lane_blockers((2, ((0, 1),)), 0, 1), ((0, 1),))
        for call in (ways_apart, blockers, lanes_apart, lane_blockers):
            self.assertEqual(call((2, ((0, 1),)), 1, 0), ())
            self.assertEqual(call((24, ()), 3, 20), ())

    def test_straight_and_round(self):
        net = net_of(4, [(0, 1), (0, 2), (2, 1), (0, 3), (3, 1), (1, 0)])
        self.assertEqual(sorted(ways_apart(net, 0, 1)), [(0, 1), (0, 2, 1), (0, 3, 1)])
        self.assertIsNone(blockers(net, 0, 1))
        self.assertEqual(len(lane_blockers(net, 0, 1)), 3)
        self.assertIn((0, 1), lane_blockers(net, 0, 1))
        self.assertIn(blockers(net, 2, 3), ((0,), (1,)))

    def test_large_ones(self):
        self.assertEqual(blockers(WIDE, 0, 23), tuple(range(1, 23)))
        self.assertEqual(sorted(ways_apart(WIDE, 0, 23)), [(0, place, 23) for place in range(1, 23)])
        self.assertEqual(len(lane_blockers(WIDE, 0, 23)), 22)
        self.assertEqual(ways_apart(LINE, 0, 23), (tuple(range(24)),))
        self.assertEqual(len(blockers(LINE, 0, 23)), 1)
        self.assertEqual(len(lane_blockers(LINE, 0, 23)), 1)
        self.assertEqual(self.check(THICK, 2, 9), (10, 10))


class ByTrying(Checked):
    """Compared with all choices of blockers."""

    def check_fewest(self, net, one, other):
        many, by_lanes = self.check(net, one, other)
        self.assertEqual(by_lanes, fewest(net[1], lambda some: other not in reach(without(net, some), one)))
        if (one, other) not in net[1]:
            rest = [place for place in range(net[0]) if place not in (one, other)]
            self.assertEqual(many, fewest(rest, lambda some: other not in reach(net, one, some)))

    def test_every_net_of_up_to_three_places(self):
        for many in (2, 3):
            for net in every_net(many):
                for one, other in all_pairs(many):
                    self.check_fewest(net, one, other)

    def test_nets_of_four_and_five_places(self):
        for net in list(every_net(4))[::13]:
            self.check_fewest(net, 0, 3)
            self.check_fewest(net, 2, 1)
        for net in some_nets(131, 30, 5, 5):
            self.check_fewest(net, 1, 4)

    def test_every_net_of_four_places(self):
        for net in every_net(4):
            self.check(net, 1, 2)


class LargerNets(Checked):
    def test_nets_of_each_shape(self):
        chance = random.Random(132)
        counts = set()
        for net in list(shaped_nets(133, 20, 2, 24)) + list(round_nets(134, 30, 2, 24)):
            for turn in range(5):
                counts.add(self.check(net, *chance.sample(range(net[0]), 2)))
        self.assertGreater(len(counts), 5)

    def test_thick_nets(self):
        chance = random.Random(135)
        unlike = 0
        for turn in range(60):
            many = chance.randint(8, 24)
            pairs = all_pairs(many)
            net = net_of(many, chance.sample(pairs, min(len(pairs), chance.choice([60, 90, 120]))))
            for again in range(3):
                told = self.check(net, *chance.sample(range(many), 2))
                unlike += told[0] != told[1]
        self.assertGreater(unlike, 3)

    def test_layers_that_ways_must_exchange(self):
        # Layers of four with few lanes between: the shortest ways are most often not those apart.
        chance = random.Random(136)
        for turn in range(60):
            layers = [range(1 + 4 * layer, 5 + 4 * layer) for layer in range(5)]
            lanes = {(0, head) for head in layers[0]} | {(tail, 21) for tail in layers[-1]}
            for here, there in zip(layers, layers[1:]):
                lanes |= {(tail, head) for tail in here for head in chance.sample(there, 2)}
            lanes |= {tuple(chance.sample(range(1, 21), 2)) for more in range(12)}
            self.check(net_of(22, lanes), 0, 21)

    def test_used_lanes_that_lead_round(self):
        chance = random.Random(138)
        for net, one, other in LEADING_ROUND:
            self.check(net, one, other)
            self.check(turned(net), other, one)
            for turn in range(20):
                names = chance.sample(range(net[0]), net[0])
                renamed = net_of(net[0], [(names[tail], names[head]) for tail, head in net[1]])
                self.check(renamed, names[one], names[other])

    def test_somewhat_beyond_the_limits(self):
        net = net_of(30, all_pairs(30)[:400])
        self.check(net, 2, 29)
        self.check(net, 0, 1)


class Told(unittest.TestCase):
    def test_the_same_again_with_others_between(self):
        asked = [(call, net, 0, net[0] - 1) for net in shaped_nets(137, 6, 2, 24)
                 for call in (ways_apart, blockers, lanes_apart, lane_blockers)]
        first = [call(*given) for call, *given in asked]
        self.assertTrue(all(is_told(told) for told in first))
        self.assertEqual([call(*given) for call, *given in asked[::-1]], first[::-1])


if __name__ == "__main__":
    unittest.main()
