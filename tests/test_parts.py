import random
import unittest
from itertools import permutations

from plainly import all_pairs, every_net, every_paper, is_told, net_of, plain_lie, plain_musts, reach, shaped_nets
from waymusts.counted import paper_numbered, papers_many
from waymusts.errors import NoPaper, TooMany
from waymusts.making import paper_of
from waymusts.nets import is_net
from waymusts.parts import exchanged, only, part_of

# 0 holds 4 and 7; 4 holds 3, 6 and 2, which lies between the two; 2 holds 1 and 8.
NET = net_of(9, [(0, 4), (0, 7), (4, 3), (4, 6), (3, 2), (6, 2), (2, 1), (2, 8), (5, 1)])
PAPER = ((0, 4, 3, 2, 1, 8, 6, 7), (0, 7, 4, 6, 2, 8, 1, 3))
LINE = (24, tuple((place, place + 1) for place in range(23)))
STAR = (24, tuple((0, place) for place in range(1, 24)))
LONG = 10 ** 60 - 1


class Only(unittest.TestCase):
    def test_by_hand(self):
        self.assertEqual(only(NET, (0, 4, 7)), (9, ((0, 4), (0, 7))))
        self.assertEqual(only(NET, [2, 1, 5]), (9, ((2, 1), (5, 1))))
        self.assertEqual(only(NET, (2, 1, 2, 1, 1)), (9, ((2, 1),)))
        self.assertEqual(only(NET, ()), (9, ()))
        self.assertEqual(only(NET, []), (9, ()))
        self.assertEqual(only(NET, [4]), (9, ()))
        self.assertEqual(only(NET, list(range(8, -1, -1))), NET)
        self.assertEqual(only((1, ()), [0]), (1, ()))
        self.assertEqual(only((2, ((0, 1), (1, 0))), (1, 0)), (2, ((0, 1), (1, 0))))

    def test_by_the_words(self):
        chance = random.Random(91)
        for net in shaped_nets(92, 20, 1, 24):
            places = chance.choices(range(net[0]), k=chance.randint(0, net[0] + 3))
            right = (net[0], tuple((one, other) for one, other in net[1] if {one, other} <= set(places)))
            before = list(places)
            for given in (places, tuple(places), places * 5):
                told = only(net, given)
                self.assertTrue(is_told(told) and is_net(told))
                self.assertEqual(told, right)
            self.assertEqual(places, before)

    def test_lists_changed_behind_the_call(self):
        places = [0, 4]
        told = only(NET, places)
        places.append(7)
        self.assertEqual(told, (9, ((0, 4),)))


class PartOf(unittest.TestCase):
    def test_by_hand(self):
        self.assertIsNone(plain_lie(NET, 0, PAPER))
        self.assertEqual(part_of(PAPER, 0), PAPER)
        self.assertEqual(part_of(PAPER, 4), ((4, 3, 2, 1, 8, 6), (4, 6, 2, 8, 1, 3)))
        self.assertEqual(part_of(PAPER, 2), ((2, 1, 8), (2, 8, 1)))
        for place in (1, 3, 6, 7, 8):
            self.assertEqual(part_of(PAPER, place), ((place,), (place,)))
        self.assertEqual(part_of(((0,), (0,)), 0), ((0,), (0,)))
        self.assertEqual(part_of((tuple(range(24)),) * 2, 20), ((20, 21, 22, 23),) * 2)

    def check(self, net, gate, paper):
        told = plain_musts(net, gate)
        self.assertEqual(part_of(paper, gate), paper)
        for place in paper[0]:
            part = part_of(paper, place)
            self.assertTrue(is_told(part))
            below = {other for other in told if place in told[other]}
            right = tuple(tuple(other for other in order if other in below) for order in paper)
            self.assertEqual(part, right)
            self.assertIsNone(plain_lie(only(net, part[0]), place, part))
            self.assertEqual(exchanged(paper, part), paper)

    def test_all_papers_of_small_nets(self):
        for net in list(every_net(4))[::29]:
            for paper in every_paper(net, 2):
                if plain_lie(net, 2, paper) is None:
                    self.check(net, 2, paper)

    def test_papers_of_larger_nets(self):
        chance = random.Random(93)
        for net in list(shaped_nets(94, 12, 1, 24)) + [STAR, LINE]:
            gate = chance.randrange(net[0])
            low, high = paper_of(net, gate)
            self.check(net, gate, (low, high))
            self.check(net, gate, (high, low))


class Exchanged(unittest.TestCase):
    def test_by_hand(self):
        self.assertEqual(exchanged(PAPER, ((2, 8, 1), (2, 1, 8))), ((0, 4, 3, 2, 8, 1, 6, 7), (0, 7, 4, 6, 2, 1, 8, 3)))
        turned_about = ((4, 6, 2, 8, 1, 3), (4, 3, 2, 1, 8, 6))
        self.assertEqual(exchanged(PAPER, turned_about), ((0, 4, 6, 2, 8, 1, 3, 7), (0, 7, 4, 3, 2, 1, 8, 6)))
        self.assertEqual(exchanged(PAPER, ((7,), (7,))), PAPER)
        self.assertEqual(exchanged(PAPER, PAPER), PAPER)
        self.assertEqual(exchanged(PAPER, PAPER[::-1]), PAPER[::-1])
        # A part that does not hold is put in all the same, and then the whole does not hold.
        lying = exchanged(PAPER, ((2, 1, 8), (2, 1, 8)))
        self.assertEqual(lying, ((0, 4, 3, 2, 1, 8, 6, 7), (0, 7, 4, 6, 2, 1, 8, 3)))
        self.assertIsNotNone(plain_lie(NET, 0, lying))
        self.assertEqual(exchanged(((0,), (0,)), ((0,), (0,))), ((0,), (0,)))

    def check(self, net, gate, paper, part):
        told = exchanged(paper, part)
        self.assertTrue(is_told(told))
        for old, new, inner in zip(paper, told, part):
            rest = [place for place in old if place not in inner]
            self.assertEqual([place for place in new if place not in inner], rest)
            self.assertEqual(tuple(place for place in new if place in inner), inner)
            self.assertEqual([place in inner for place in new], [place in inner for place in old])
        right = plain_lie(only(net, part[0]), part[0][0], part) is None
        self.assertEqual(plain_lie(net, gate, told) is None, right)
        return right

    def test_all_parts_of_small_nets(self):
        kinds = {True: 0, False: 0}
        for net in list(every_net(4))[::41] + list(shaped_nets(95, 3, 5, 6)):
            paper = paper_of(net, 0)
            for place in paper[0]:
                inner = part_of(paper, place)[0][1:]
                if len(inner) > 4:
                    continue
                for low in permutations(inner):
                    for high in list(permutations(inner))[::5]:
                        kinds[self.check(net, 0, paper, ((place,) + low, (place,) + high))] += 1
        self.assertGreater(min(kinds.values()), 50)

    def shuffled(self, chance, part):
        """The part with two places of one order exchanged, but the first ones."""
        orders = [list(order) for order in part]
        if len(orders[0]) > 2:
            one, other = chance.sample(range(1, len(orders[0])), 2)
            order = orders[chance.randrange(2)]
            order[one], order[other] = order[other], order[one]
        return tuple(tuple(order) for order in orders)

    def test_parts_of_larger_nets(self):
        chance = random.Random(96)
        kinds = {True: 0, False: 0}
        for net in list(shaped_nets(97, 15, 4, 24)) + [STAR]:
            gate = chance.randrange(net[0])
            paper = paper_of(net, gate)
            for place in chance.sample(paper[0], min(4, len(paper[0]))):
                low, high = part_of(paper, place)
                for part in ((high, low), self.shuffled(chance, (low, high)), self.shuffled(chance, (high, low))):
                    kinds[self.check(net, gate, paper, part)] += 1
                kinds[self.check(net, gate, paper, paper_of(only(net, low), place))] += 1
        self.assertGreater(min(kinds.values()), 30)

    def test_all_papers_of_a_part(self):
        chance = random.Random(98)
        for net in shaped_nets(99, 8, 4, 16):
            gate = chance.randrange(net[0])
            paper = paper_of(net, gate)
            place = chance.choice(paper[0])
            inner = only(net, part_of(paper, place)[0])
            try:
                many = papers_many(inner, place)
            except TooMany:
                continue
            for number in range(min(many, 12)):
                self.assertTrue(self.check(net, gate, paper, paper_numbered(inner, place, number)))


class Refused(unittest.TestCase):
    def test_parts_of_other_places(self):
        none = (
            ((2, 1), (2, 8, 1)), ((2, 1, 8), (2, 1)), ((2, 1), (2, 1)), ((2,), (2,)),
            ((2, 1, 1), (2, 1, 8)), ((2, 1, 8), (2, 8, 8)), ((2, 1, 1), (2, 1, 1)), ((2, 1, 8, 8), (2, 1, 8, 8)),
            ((2, 1, 8, 6), (2, 1, 8, 6)), ((2, 1, 8, 6), (2, 1, 8)), ((2, 1, 8), (2, 1, 8, 6)),
            ((2, 1, 9), (2, 1, 9)), ((2, 1, 5), (2, 1, 5)), ((2, 1, -1), (2, 1, -1)), ((2, 1, LONG), (2, 1, 8)),
            ((2, 1, 6), (2, 1, 6)), ((2, 1, 8, 2), (2, 1, 8, 2)),
        )
        for part in none:
            with self.subTest(part=part):
                self.assertRaises(NoPaper, exchanged, PAPER, part)

    def test_parts_that_begin_otherwise(self):
        none = (
            ((2, 1, 8), (1, 2, 8)), ((1, 2, 8), (2, 1, 8)), ((1, 2, 8), (1, 2, 8)), ((7,), (6,)), ((3,), (6,)),
            ((5,), (5,)), ((9,), (9,)), ((-1,), (-1,)), ((LONG,), (LONG,)), ((LONG, 2), (-LONG, 2)),
            (PAPER[0], PAPER[1][1:] + (0,)), (PAPER[0][1:] + (0,), PAPER[1]), ((4, 7), (4, 7)),
            ((3, 2, 1, 8, 6), (3, 2, 1, 8, 6)), ((0,) * 400, (0,) * 400), (tuple(range(400)), tuple(range(400))),
        )
        for part in none:
            with self.subTest(part=part):
                self.assertRaises(NoPaper, exchanged, PAPER, part)

    def test_each_spoiled_part_of_larger_nets(self):
        chance = random.Random(100)
        for net in shaped_nets(101, 10, 4, 24):
            gate = chance.randrange(net[0])
            paper = paper_of(net, gate)
            for place in paper[0]:
                low, high = part_of(paper, place)
                more = chance.choice([-1, net[0], LONG] + sorted(set(range(net[0])) - set(low)))
                spoiled = [((low + (more,)), high), (low, high + (more,)), (low + (more,), high + (more,))]
                spoiled += [(low + low[-1:], high), (low, high + high[-1:])]
                if len(low) > 1:
                    spoiled += [(low[:-1], high), (low, high[:-1]), (low[:-1] + low[:1], high)]
                    spoiled += [(low[1:] + low[:1], high), (low, high[1:] + high[:1]), (low[1:], low[1:] + low[:1])]
                    spoiled += [(low[1:] + low[:1], low[1:] + low[:1]), ((low[0],), (low[0],))]
                for part in spoiled:
                    self.assertRaises(NoPaper, exchanged, paper, part)


class Told(unittest.TestCase):
    def test_the_same_again_with_others_between(self):
        asked = []
        for net in shaped_nets(102, 6, 2, 24):
            paper = paper_of(net, 0)
            asked += [(only, net, [0, 1]), (part_of, paper, paper[0][-1]), (exchanged, paper, paper[::-1])]
        first = [call(*given) for call, *given in asked]
        self.assertTrue(all(is_told(told) for told in first))
        self.assertEqual([call(*given) for call, *given in asked[::-1]], first[::-1])

    def test_somewhat_beyond_the_limits(self):
        net = (30, tuple(all_pairs(30)[:200]))
        paper = paper_of(net, 0)
        self.assertEqual(part_of(paper, 0), paper)
        self.assertEqual(exchanged(paper, paper[::-1]), paper[::-1])
        self.assertEqual(only(net, range(0, 30)), net)
        self.assertEqual(set(paper[0]), reach(net, 0))


if __name__ == "__main__":
    unittest.main()
