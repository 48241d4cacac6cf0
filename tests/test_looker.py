import random
import unittest
from itertools import permutations

from plainly import all_pairs, is_told, net_of, plain_lie, shaped_nets, some_nets
from waymusts.errors import NoLane, NoPaper
from waymusts.looker import Looker
from waymusts.making import paper_of
from waymusts.papers import holds

PAPER = ((0, 1, 3, 2), (0, 2, 3, 1))
SIDES = ((0, 1), (0, 2), (1, 3), (2, 3))
ALL = tuple(range(24))
LONG = 10 ** 60 - 1


def looker_with(gate, paper, lanes):
    looker = Looker(gate, paper)
    for lane in lanes:
        looker.lane(*lane)
    return looker


class Papers(unittest.TestCase):
    def test_papers(self):
        for gate, paper in (
            (0, ((0,), (0,))), (23, ((23,), (23,))), (0, (ALL, ALL)), (0, PAPER), (7, ((7, 0, 23), (7, 23, 0))),
            (5, ((5, 1), (5, 1))), (23, (ALL[::-1], ALL[::-1])),
        ):
            self.assertEqual(Looker(gate, paper).lanes(), ())

    def test_no_papers(self):
        for gate, paper in (
            (0, ((), ())), (0, ((0,), ())), (0, ((), (0,))), (0, ((0, 1), (0,))), (0, ((0,), (0, 1))),
            (0, ((0, 1, 1), (0, 1, 1))), (0, ((0, 1, 1), (0, 1))), (0, ((0, 1), (0, 1, 1))), (0, ((0, 0), (0, 0))),
            (0, ((0, 1, 1, 2), (0, 1, 2, 2))), (0, ((0, 1, 2), (0, 1, 3))), (0, ((0, 1), (0, 2))),
            (0, ((0, 24), (0, 24))), (0, ((0, -1), (0, -1))), (0, ((0, LONG), (0, LONG))), (0, (ALL + (24,),) * 2),
            (24, ((24,), (24,))), (-1, ((-1,), (-1,))), (LONG, ((LONG,), (LONG,))), (-LONG, ((-LONG,), (-LONG,))),
            (1, ((0, 1), (0, 1))), (0, ((1, 0), (0, 1))), (0, ((0, 1), (1, 0))), (0, ((1, 0), (1, 0))),
            (2, ((0, 1), (0, 1))), (LONG, ((0,), (0,))), (-1, (ALL, ALL)), (24, (ALL, ALL)), (-24, (ALL, ALL)),
            (0, ((1,), (1,))), (0, ((0,) * 400, (0,) * 400)), (0, (tuple(range(400)),) * 2), (1, ((), ())),
        ):
            with self.subTest(gate=gate, paper=paper):
                with self.assertRaises(NoPaper) as caught:
                    Looker(gate, paper)
                self.assertIs(type(caught.exception), NoPaper)


class Lanes(unittest.TestCase):
    def test_told_and_taken_out(self):
        looker = Looker(0, PAPER)
        for lane in ((5, 3), (23, 0), (0, 23), (3, 5), (0, 1)):
            self.assertIsNone(looker.lane(*lane))
        self.assertEqual(looker.lanes(), ((0, 1), (0, 23), (3, 5), (5, 3), (23, 0)))
        self.assertIsNone(looker.drop(0, 23))
        self.assertEqual(looker.lanes(), ((0, 1), (3, 5), (5, 3), (23, 0)))
        told = looker.lanes()
        looker.drop(0, 1)
        self.assertEqual(told, ((0, 1), (3, 5), (5, 3), (23, 0)))
        self.assertTrue(is_told(told))

    def test_refused(self):
        looker = looker_with(0, PAPER, SIDES)
        for lane in (
            (0, 1), (2, 3), (0, 0), (23, 23), (24, 0), (0, 24), (24, 24), (-1, 0), (0, -1), (-1, -2), (LONG, 0),
            (0, LONG), (-LONG, -LONG), (LONG, -LONG),
        ):
            with self.subTest(lane=lane):
                self.assertRaises(NoLane, looker.lane, *lane)
                self.assertEqual((looker.lanes(), looker.holds()), (SIDES, True))
        for lane in (
            (1, 0), (0, 3), (0, 0), (24, 0), (0, 24), (-1, 0), (0, -1), (LONG, 0), (0, -LONG), (23, 22), (-1, -1),
        ):
            with self.subTest(lane=lane):
                self.assertRaises(NoLane, looker.drop, *lane)
                self.assertEqual((looker.lanes(), looker.holds()), (SIDES, True))

    def test_as_many_as_there_is_room_for(self):
        pairs = all_pairs(24)
        looker = looker_with(0, PAPER, pairs[:120])
        self.assertEqual(looker.lanes(), tuple(pairs[:120]))
        for lane in pairs[120:130] + pairs[:3]:
            self.assertRaises(NoLane, looker.lane, *lane)
        self.assertEqual(looker.lanes(), tuple(pairs[:120]))
        looker.drop(*pairs[60])
        looker.lane(*pairs[200])
        self.assertRaises(NoLane, looker.lane, *pairs[60])
        self.assertEqual(len(looker.lanes()), 120)

    def test_two_lookers_of_one_paper(self):
        one, other = Looker(0, PAPER), looker_with(0, PAPER, SIDES)
        one.lane(5, 6)
        self.assertEqual((one.lanes(), one.holds()), (((5, 6),), False))
        self.assertEqual((other.lanes(), other.holds()), (SIDES, True))
        self.assertEqual(PAPER, ((0, 1, 3, 2), (0, 2, 3, 1)))


class Holds(unittest.TestCase):
    def test_by_hand(self):
        looker = Looker(0, PAPER)
        for lane, right in zip(SIDES, (False, False, False, True)):
            looker.lane(*lane)
            self.assertIs(looker.holds(), right)
        # From places that are not of the paper, and to the gate, whatever lanes may lead.
        for lane in ((4, 3), (23, 4), (5, 0), (3, 0), (1, 0), (1, 2), (3, 1)):
            looker.lane(*lane)
            self.assertIs(looker.holds(), True)
        looker.lane(3, 4)
        self.assertIs(looker.holds(), False)
        looker.drop(3, 4)
        self.assertIs(looker.holds(), True)
        looker.drop(0, 1)
        self.assertIs(looker.holds(), False)

    def test_one_place(self):
        looker = Looker(9, ((9,), (9,)))
        self.assertIs(looker.holds(), True)
        looker.lane(3, 9)
        looker.lane(3, 4)
        self.assertIs(looker.holds(), True)
        looker.lane(9, 3)
        self.assertIs(looker.holds(), False)
        looker.drop(9, 3)
        self.assertIs(looker.holds(), True)

    def test_led_in_one_order_only(self):
        low = looker_with(0, ((0, 1, 2), (0, 2, 1)), ((0, 1), (1, 2)))
        high = looker_with(0, ((0, 1, 2), (0, 2, 1)), ((0, 2), (2, 1)))
        for looker in (low, high):
            self.assertIs(looker.holds(), False)
        low.lane(0, 2)
        high.lane(0, 1)
        for looker in (low, high):
            self.assertIs(looker.holds(), True)

    def test_a_lane_that_lies(self):
        looker = looker_with(0, ((0, 1, 2), (0, 1, 2)), ((0, 1), (1, 2)))
        self.assertIs(looker.holds(), True)
        looker.lane(0, 2)
        self.assertIs(looker.holds(), False)
        looker.drop(0, 2)
        looker.lane(2, 0)
        looker.lane(2, 1)
        self.assertIs(looker.holds(), True)

    def test_one_lane_many_times(self):
        looker = looker_with(0, PAPER, SIDES[:3])
        for turn in range(200):
            looker.lane(2, 3)
            self.assertIs(looker.holds(), True)
            self.assertRaises(NoLane, looker.lane, 2, 3)
            looker.drop(2, 3)
            self.assertIs(looker.holds(), False)
            self.assertRaises(NoLane, looker.drop, 2, 3)

    def test_every_paper_and_all_lanes_of_four_places(self):
        # Places 0, 1, 2 of the paper, and 3, which isn't of it.
        pairs = all_pairs(4)
        chance = random.Random(141)
        for low in permutations((1, 2)):
            for high in permutations((1, 2)):
                paper = ((0,) + low, (0,) + high)
                looker = Looker(0, paper)
                there = set()
                for turn in range(700):
                    lane = chance.choice(pairs)
                    (looker.drop if lane in there else looker.lane)(*lane)
                    there ^= {lane}
                    self.assertEqual(looker.lanes(), tuple(sorted(there)))
                    self.assertIs(looker.holds(), plain_lie(net_of(24, there), 0, paper) is None)

    def test_lanes_in_any_order_and_taken_out(self):
        chance = random.Random(142)
        kinds = {True: 0, False: 0}
        for net in shaped_nets(143, 6, 1, 24):
            gate = chance.randrange(net[0])
            paper = paper_of(net, gate)
            looker = Looker(gate, paper)
            there = set()
            for lane in chance.sample(net[1], len(net[1])):
                looker.lane(*lane)
                there.add(lane)
                self.assertIs(looker.holds(), holds(net_of(24, there), gate, paper))
            self.assertIs(looker.holds(), True)
            for turn in range(40):
                lane = chance.choice(net[1] or [(0, 1)]) if turn % 2 else tuple(chance.sample(range(24), 2))
                if lane not in there and len(there) >= 120:
                    continue
                (looker.drop if lane in there else looker.lane)(*lane)
                there ^= {lane}
                right = holds(net_of(24, there), gate, paper)
                self.assertIs(looker.holds(), right)
                kinds[right] += 1
                if not right or chance.random() < 0.5:
                    # Back again, so that the paper holds as often as not.
                    (looker.drop if lane in there else looker.lane)(*lane)
                    there ^= {lane}
                    self.assertIs(looker.holds(), holds(net_of(24, there), gate, paper))
        self.assertGreater(min(kinds.values()), 100)

    def test_by_the_plain_words(self):
        chance = random.Random(144)
        for net in some_nets(145, 25, 3, 24):
            gate = chance.randrange(net[0])
            low, high = paper_of(net, gate)
            rest = chance.sample(low[1:], len(low) - 1)
            for paper in ((low, high), (high, low), (low, low), ((gate,) + tuple(rest), high), (low[:-1] or low,) * 2):
                looker = looker_with(gate, paper, net[1])
                self.assertIs(looker.holds(), plain_lie((24, net[1]), gate, paper) is None)
                self.assertIs(looker.holds(), looker.holds())


if __name__ == "__main__":
    unittest.main()
