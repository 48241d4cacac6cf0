import random
import unittest
from itertools import permutations, product

from plainly import every_net, every_paper, is_told, plain_lie, plain_musts, reach, shaped_nets, stands_above, ways_of
from waymusts.errors import NoPaper, NotReached
from waymusts.making import paper_of
from waymusts.musts import musts
from waymusts.papers import holds, lie_of, musts_by, two_ways

# From 0 by 4 (a must of the rest), on two sides to 2, from there by one lane to 1; 5 isn't reached, but leads in.
NET = (7, ((0, 4), (2, 1), (3, 2), (4, 3), (4, 6), (5, 1), (5, 4), (6, 2)))
LOW = (0, 4, 3, 2, 1, 6)
HIGH = (0, 4, 6, 2, 1, 3)
PAPER = (LOW, HIGH)
LINE = (24, tuple((place, place + 1) for place in range(23)))
LONG = 10 ** 60 - 1


def swapped(order, one, other):
    order = list(order)
    order[one], order[other] = order[other], order[one]
    return tuple(order)


class LiesByHand(unittest.TestCase):
    def lies(self, net, gate, paper, lie):
        with self.subTest(net=net, gate=gate, paper=paper):
            told = lie_of(net, gate, paper)
            self.assertEqual(told, lie)
            self.assertTrue(is_told(told))
            self.assertIs(holds(net, gate, paper), lie is None)

    def test_none(self):
        self.lies(NET, 0, PAPER, None)
        self.lies(NET, 0, (HIGH, LOW), None)
        self.lies((1, ()), 0, ((0,), (0,)), None)
        self.lies((24, ()), 7, ((7,), (7,)), None)
        self.lies(LINE, 0, (tuple(range(24)),) * 2, None)
        self.lies(LINE, 20, ((20, 21, 22, 23),) * 2, None)
        self.lies((3, ((0, 1), (0, 2))), 0, ((0, 1, 2), (0, 2, 1)), None)

    def test_places(self):
        wrong = (
            (0, 4, 3, 2, 1), (4, 3, 2, 1, 6), (0,), (),
            (0, 4, 3, 2, 1, 6, 6), (0, 4, 3, 2, 1, 1), (0, 0, 4, 3, 2, 1, 6), (0, 4, 3, 2, 1, 6, 0), (0,) * 6,
            (0, 4, 3, 2, 1, 6, 5), (0, 4, 3, 2, 1, 5), (0, 5, 4, 3, 2, 1, 6),
            (0, 4, 3, 2, 1, 6, 7), (0, 4, 3, 2, 1, 7), (0, 4, 3, 2, 1, LONG), (0, 4, 3, 2, 1, 6, LONG),
            (0, 4, 3, 2, 1, -1), (0, 4, 3, 2, 1, 6, -1), (-7, 4, 3, 2, 1, 6), (-LONG,), (0, 4, 3, 2, 1, -LONG),
            (4, 0, 3, 2, 1, 6), (6, 1, 2, 3, 4, 0), (1, 4, 3, 2, 0, 6),
            (0,) * 400, tuple(range(400)), LOW + (LONG,) * 394,
        )
        for order in wrong:
            self.lies(NET, 0, (order, HIGH), ("places",))
            self.lies(NET, 0, (LOW, order), ("places",))
            self.lies(NET, 0, (order, order), ("places",))
        self.lies((1, ()), 0, ((), ()), ("places",))
        self.lies((1, ()), 0, ((0,), ()), ("places",))
        self.lies((1, ()), 0, ((1,), (1,)), ("places",))
        self.lies((2, ((0, 1),)), 0, ((1, 0), (0, 1)), ("places",))
        self.lies((2, ((0, 1), (1, 0))), 1, ((0, 1), (0, 1)), ("places",))
        self.lies((2, ((1, 0),)), 0, ((0, 1), (0, 1)), ("places",))

    def test_orders_of_unlike_lengths(self):
        self.lies(NET, 0, (LOW, LOW[:3]), ("places",))
        self.lies(NET, 0, (HIGH + (5,), HIGH), ("places",))
        self.lies(NET, 0, ((), HIGH), ("places",))

    def test_low_and_high(self):
        self.lies(NET, 0, ((0, 4, 2, 1, 3, 6), HIGH), ("low", 2))
        self.lies(NET, 0, (LOW, (0, 4, 2, 1, 3, 6)), ("high", 2))
        self.lies(NET, 0, ((0, 4, 2, 1, 3, 6), (0, 4, 2, 1, 6, 3)), ("low", 2))
        # The least place goes ahead, whichever order it is, and of one place the low order.
        self.lies(NET, 0, ((0, 4, 2, 1, 3, 6), (0, 4, 6, 1, 2, 3)), ("high", 1))
        self.lies(NET, 0, ((0, 4, 1, 2, 3, 6), (0, 4, 1, 2, 3, 6)), ("low", 1))
        self.lies(NET, 0, ((0, 3, 4, 2, 1, 6), (0, 6, 4, 2, 1, 3)), ("low", 3))
        self.lies(NET, 0, ((0, 6, 4, 2, 1, 3), (0, 3, 4, 2, 1, 6)), ("high", 3))
        self.lies(NET, 0, ((0, 6, 4, 3, 2, 1), HIGH), ("low", 6))
        # They go ahead of each lane, also of lanes of lesser places.
        self.lies((4, ((0, 1), (0, 2), (2, 1), (2, 3))), 0, ((0, 2, 1, 3), (0, 3, 2, 1)), ("high", 3))
        self.lies((4, ((0, 1), (0, 2), (2, 1), (2, 3))), 0, ((0, 2, 1, 3), (0, 2, 3, 1)), ("lane", 0, 1))

    def test_lanes_from_places_that_are_not_reached(self):
        # Place 2 isn't reached: its lane neither leads to 1 for the paper, nor can it lie.
        net = (4, ((0, 3), (2, 1), (2, 3), (3, 1)))
        self.lies(net, 0, ((0, 3, 1), (0, 3, 1)), None)
        self.lies(net, 0, ((0, 1, 3), (0, 3, 1)), ("low", 1))
        self.lies(net, 0, ((0, 3, 1), (0, 1, 3)), ("high", 1))

    def test_lanes(self):
        self.lies(NET, 0, (LOW[:2] + (3, 6, 2, 1),) * 2, ("lane", 3, 2))
        self.lies(NET, 0, ((0, 4, 6, 3, 2, 1),) * 2, ("lane", 4, 3))
        self.lies(NET, 0, (LOW, (0, 4, 6, 3, 2, 1)), ("lane", 6, 2))
        self.lies((3, ((0, 1), (0, 2), (1, 2))), 0, ((0, 1, 2), (0, 1, 2)), ("lane", 0, 2))
        self.lies((3, ((0, 1), (0, 2), (1, 2))), 0, ((0, 1, 2), (0, 2, 1)), None)

    def test_lanes_back(self):
        ring = (4, ((0, 1), (1, 2), (2, 0), (2, 1), (2, 3), (3, 0), (3, 1)))
        self.lies(ring, 0, ((0, 1, 2, 3),) * 2, None)
        self.lies(ring, 1, ((1, 2, 0, 3), (1, 2, 3, 0)), None)
        self.lies(ring, 1, ((1, 2, 0, 3),) * 2, ("lane", 2, 3))


class LiesCompared(unittest.TestCase):
    def check(self, net, gate, paper):
        lie = plain_lie(net, gate, paper)
        self.assertEqual(lie_of(net, gate, paper), lie, (net, gate, paper))
        self.assertIs(holds(net, gate, paper), lie is None)
        return lie

    def test_every_net_of_three_places_with_any_orders(self):
        orders = [order for size in (2, 3) for order in product(range(3), repeat=size)] + [(), (0,), (0, 1, 2, 0)]
        for net in list(every_net(3))[::3]:
            for paper in product(orders, repeat=2):
                self.check(net, 0, paper)

    def test_nets_of_four_places_with_all_pairs_of_orders(self):
        for net in list(every_net(4))[::13]:
            for paper in every_paper(net, 2):
                self.check(net, 2, paper)

    def spoiled(self, chance, order):
        order = list(order)
        for turn in range(chance.randint(1, 2)):
            order = chance.choice((
                list(swapped(order, *chance.choices(range(len(order)), k=2))) if order else [],
                order[:-1], order + order[:1], order[:1] + chance.sample(order[1:], len(order[1:])),
                order[:-1] + [chance.choice((-1, 24, LONG, -LONG, 0, 5))], chance.sample(order, len(order)),
            ))
        return tuple(order)

    def test_larger_nets_with_spoiled_papers(self):
        chance = random.Random(21)
        kinds = set()
        for net in shaped_nets(22, 30, 2, 24):
            gate = chance.randrange(net[0])
            low, high = paper_of(net, gate)
            rest = low[1:]
            papers = [(low, high), (high, low), (low, low), (high, high)]
            papers += [(self.spoiled(chance, low), high), (low, self.spoiled(chance, high))]
            papers += [(self.spoiled(chance, low), self.spoiled(chance, high))]
            papers += [((gate,) + tuple(chance.sample(rest, len(rest))), high)]
            for turn in range(4):
                if len(rest) > 1:
                    spot = chance.randrange(1, len(rest))
                    papers += [(swapped(low, spot, spot + 1), high), (low, swapped(high, spot, spot + 1))]
            for paper in papers:
                lie = self.check(net, gate, paper)
                kinds.add(lie[0] if lie else None)
        self.assertEqual(kinds, {None, "places", "low", "high", "lane"})

    def test_lanes_of_other_nets(self):
        # A paper that held before, with a lane put in or dropped since.
        chance = random.Random(23)
        for net in shaped_nets(24, 15, 3, 16):
            gate = chance.randrange(net[0])
            paper = paper_of(net, gate)
            for turn in range(6):
                lane = tuple(chance.sample(range(net[0]), 2))
                self.check((net[0], tuple(sorted(set(net[1]) ^ {lane}))), gate, paper)


class MustsBy(unittest.TestCase):
    def test_by_hand(self):
        self.assertEqual(musts_by(PAPER, 0), (0,))
        self.assertEqual(musts_by(PAPER, 4), (0, 4))
        self.assertEqual(musts_by(PAPER, 3), (0, 4, 3))
        self.assertEqual(musts_by(PAPER, 6), (0, 4, 6))
        self.assertEqual(musts_by(PAPER, 2), (0, 4, 2))
        self.assertEqual(musts_by(PAPER, 1), (0, 4, 2, 1))
        self.assertEqual(musts_by(((0,), (0,)), 0), (0,))
        self.assertEqual(musts_by((tuple(range(24)),) * 2, 23), tuple(range(24)))

    def test_of_papers_that_hold_for_no_net(self):
        self.assertEqual(musts_by(((3, 1, 2), (1, 3, 2)), 2), (3, 1, 2))
        self.assertEqual(musts_by(((1, 3, 2), (3, 1, 2)), 2), (1, 3, 2))
        self.assertEqual(musts_by(((3, 1, 2), (2, 3, 1)), 1), (3, 1))
        self.assertEqual(musts_by(((3, 1, 2), (2, 3, 1)), 2), (2,))
        # Places of one order only are above nothing.
        self.assertEqual(musts_by(((9, 1, 2), (8, 1, 2)), 2), (1, 2))
        self.assertEqual(musts_by(((4, 5), (5,)), 5), (5,))
        self.assertEqual(musts_by(((5,), (4, 6, 5, 4)), 5), (5,))
        self.assertEqual(musts_by((tuple(range(400)), tuple(range(399, -1, -1))), 200), (200,))
        self.assertEqual(musts_by((tuple(range(400)),) * 2, 399), tuple(range(400)))

    def test_every_pair_of_orders_of_four_places(self):
        for low, high in product(permutations(range(4)), repeat=2):
            for place in range(4):
                right = tuple(one for one in low if stands_above((low, high), one, place)) + (place,)
                self.assertEqual(musts_by((low, high), place), right)


class Shown(unittest.TestCase):
    """What a paper that holds shows, whoever wrote it."""

    def check_shown(self, net, gate, paper):
        told = plain_musts(net, gate)
        for place in told:
            self.assertEqual(musts_by(paper, place), musts(net, gate, place))
            ways = two_ways(net, gate, paper, place)
            self.assertTrue(is_told(ways))
            low_way, high_way = ways
            self.check_way(net, gate, paper[0], low_way, place)
            self.check_way(net, gate, paper[1], high_way, place)
            self.assertEqual(set(low_way) & set(high_way), told[place])

    def check_way(self, net, gate, order, way, place):
        self.assertEqual((way[0], way[-1]), (gate, place))
        self.assertEqual(len(set(way)), len(way))
        for one, other in zip(way, way[1:]):
            tails = [a for a, b in net[1] if b == other and a in order]
            self.assertEqual(one, min(tails, key=order.index))

    def test_all_papers_that_hold_of_small_nets(self):
        held = 0
        for net in list(every_net(4))[::9]:
            for paper in every_paper(net, 0):
                if plain_lie(net, 0, paper) is None:
                    self.check_shown(net, 0, paper)
                    held += 1
        self.assertGreater(held, 400)

    def test_papers_of_larger_nets(self):
        chance = random.Random(25)
        for net in shaped_nets(26, 25, 1, 24):
            gate = chance.randrange(net[0])
            low, high = paper_of(net, gate)
            self.check_shown(net, gate, (low, high))
            self.check_shown(net, gate, (high, low))


class TwoWays(unittest.TestCase):
    def test_by_hand(self):
        self.assertEqual(two_ways(NET, 0, PAPER, 0), ((0,), (0,)))
        self.assertEqual(two_ways(NET, 0, PAPER, 4), ((0, 4), (0, 4)))
        self.assertEqual(two_ways(NET, 0, PAPER, 2), ((0, 4, 3, 2), (0, 4, 6, 2)))
        self.assertEqual(two_ways(NET, 0, (HIGH, LOW), 2), ((0, 4, 6, 2), (0, 4, 3, 2)))
        self.assertEqual(two_ways(NET, 0, PAPER, 1), ((0, 4, 3, 2, 1), (0, 4, 6, 2, 1)))
        self.assertEqual(two_ways((1, ()), 0, ((0,), (0,)), 0), ((0,), (0,)))
        self.assertEqual(two_ways(LINE, 0, (tuple(range(24)),) * 2, 23), (tuple(range(24)),) * 2)

    def test_back_to_the_first_of_several(self):
        net = (4, ((0, 1), (0, 2), (0, 3), (1, 2), (1, 3), (2, 3)))
        self.assertEqual(two_ways(net, 0, ((0, 1, 2, 3), (0, 3, 2, 1)), 3), ((0, 3), (0, 3)))
        net = (5, ((0, 1), (0, 2), (1, 3), (1, 4), (2, 3), (2, 4), (3, 4)))
        self.assertEqual(two_ways(net, 0, ((0, 1, 3, 4, 2), (0, 2, 4, 3, 1)), 4), ((0, 1, 4), (0, 2, 4)))
        self.assertEqual(two_ways(net, 0, ((0, 1, 4, 3, 2), (0, 2, 3, 4, 1)), 3), ((0, 1, 3), (0, 2, 3)))

    def test_refused(self):
        lying = ((0, 4, 2, 1, 3, 6), HIGH)
        for paper in (lying, (LOW, LOW), ((), ()), ((0,), (0,)), ((LONG, -1), HIGH), (LOW + (5,), HIGH + (5,))):
            for place in range(7):
                self.assertRaises(NoPaper, two_ways, NET, 0, paper, place)
        self.assertRaises(NotReached, two_ways, NET, 0, PAPER, 5)
        self.assertRaises(NotReached, two_ways, LINE, 20, ((20, 21, 22, 23),) * 2, 19)
        self.assertRaises(NotReached, two_ways, (24, ()), 0, ((0,), (0,)), 23)

    def test_just_where_it_is_not_reached(self):
        for net in shaped_nets(27, 15, 2, 12):
            paper = paper_of(net, 1)
            for place in set(range(net[0])) - reach(net, 1):
                self.assertRaises(NotReached, two_ways, net, 1, paper, place)
                self.assertRaises(NoPaper, two_ways, net, 1, (paper[0] + (place,), paper[1]), place)

    def test_ways_of_all_ways(self):
        for net in shaped_nets(28, 5, 2, 7):
            for gate in range(net[0]):
                paper = paper_of(net, gate)
                for place in reach(net, gate):
                    for way in two_ways(net, gate, paper, place):
                        self.assertIn(way, ways_of(net, gate, place))


class Told(unittest.TestCase):
    def test_tuples_all_through_and_the_same_again(self):
        asked = []
        for net in shaped_nets(29, 8, 2, 24):
            paper = paper_of(net, 0)
            lying = (paper[0], paper[0])
            asked += [(lie_of, net, 0, paper), (lie_of, net, 0, lying), (holds, net, 0, paper), (holds, net, 0, lying)]
            asked += [(musts_by, paper, place) for place in paper[0]]
            asked += [(two_ways, net, 0, paper, place) for place in paper[0]]
        first = [call(*given) for call, *given in asked]
        self.assertTrue(all(is_told(told) for told in first))
        self.assertEqual([call(*given) for call, *given in asked[::-1]], first[::-1])

    def test_somewhat_beyond_the_limits(self):
        net = (30, tuple((place, place + 1) for place in range(29)))
        paper = (tuple(range(30)),) * 2
        self.assertIsNone(lie_of(net, 0, paper))
        self.assertEqual(two_ways(net, 0, paper, 29), paper)
        self.assertEqual(musts_by(paper, 29), paper[0])
        self.assertEqual(lie_of(net, 0, (tuple(range(500)), ())), ("places",))


if __name__ == "__main__":
    unittest.main()
