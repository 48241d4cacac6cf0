import random
import unittest
from itertools import permutations

from plainly import every_net, every_paper, is_told, net_of, plain_family, plain_fits, plain_lie, reach, shaped_nets
from waymusts.counted import number_of, paper_numbered, papers_many
from waymusts.errors import NoPaper, NoSuch, TooMany
from waymusts.making import paper_of

LINE = (24, tuple((place, place + 1) for place in range(23)))
FIVE = (6, tuple((0, place) for place in range(1, 6)))
SIX = (7, tuple((0, place) for place in range(1, 7)))
# Six children again, but not of the gate, and not all of them led.
SIX_BELOW = net_of(9, [(0, 1), (1, 2), (1, 3), (2, 4), (3, 4), (1, 5), (1, 6), (1, 7), (7, 8)])
# Each of the gate's five children has children itself: 5, 5, 5, 3 and none.
BROAD = net_of(24, [((place - 1) // 5, place) for place in range(1, 24)])
LONG = 10 ** 60 - 1


def is_too_many(net, gate):
    return any(len(plain_family(net, gate, place)[0]) > 5 for place in reach(net, gate))


class ByHand(unittest.TestCase):
    def test_one_place_and_rows(self):
        for net, gate in (((1, ()), 0), ((24, ()), 5), (LINE, 0), (LINE, 23), (LINE, 7)):
            places = tuple(range(gate, 24)) if net == LINE else (gate,)
            self.assertEqual(papers_many(net, gate), 1)
            self.assertEqual(paper_numbered(net, gate, 0), (places, places))
            self.assertEqual(number_of(net, gate, (places, places)), 0)
            self.assertRaises(NoSuch, paper_numbered, net, gate, 1)

    def test_two_children(self):
        net = (3, ((0, 1), (0, 2)))
        self.assertEqual(papers_many(net, 0), 2)
        self.assertEqual(paper_numbered(net, 0, 0), ((0, 1, 2), (0, 2, 1)))
        self.assertEqual(paper_numbered(net, 0, 1), ((0, 2, 1), (0, 1, 2)))
        self.assertEqual(number_of(net, 0, ((0, 1, 2), (0, 2, 1))), 0)
        self.assertEqual(number_of(net, 0, ((0, 2, 1), (0, 1, 2))), 1)

    def test_one_between_two(self):
        net = (4, ((0, 1), (0, 2), (1, 3), (2, 3)))
        self.assertEqual(papers_many(net, 0), 2)
        self.assertEqual(paper_numbered(net, 0, 0), ((0, 1, 3, 2), (0, 2, 3, 1)))
        self.assertEqual(paper_numbered(net, 0, 1), ((0, 2, 3, 1), (0, 1, 3, 2)))

    def test_families_within_families(self):
        # 1 and 2 are the gate's, 3 and 4 are 1's: what is below 1 goes ahead of what comes behind it.
        net = (7, ((0, 1), (0, 2), (1, 3), (1, 4), (2, 5), (2, 6)))
        lows = (
            (0, 1, 3, 4, 2, 5, 6), (0, 1, 3, 4, 2, 6, 5), (0, 1, 4, 3, 2, 5, 6), (0, 1, 4, 3, 2, 6, 5),
            (0, 2, 5, 6, 1, 3, 4), (0, 2, 5, 6, 1, 4, 3), (0, 2, 6, 5, 1, 3, 4), (0, 2, 6, 5, 1, 4, 3),
        )
        self.assertEqual(papers_many(net, 0), 8)
        self.assertEqual(tuple(paper_numbered(net, 0, number)[0] for number in range(8)), lows)
        self.assertEqual(paper_numbered(net, 0, 0)[1], (0, 2, 6, 5, 1, 4, 3))

    def test_three_children_with_families(self):
        # The order of the last two children is told behind what is below the first one.
        net = (6, ((0, 1), (0, 2), (0, 3), (1, 4), (1, 5)))
        lows = [paper_numbered(net, 0, number)[0] for number in range(12)]
        self.assertEqual(papers_many(net, 0), 12)
        self.assertEqual(lows[:5], [
            (0, 1, 4, 5, 2, 3), (0, 1, 4, 5, 3, 2), (0, 1, 5, 4, 2, 3), (0, 1, 5, 4, 3, 2), (0, 2, 1, 4, 5, 3),
        ])
        self.assertEqual(lows, sorted(lows))


class SmallNets(unittest.TestCase):
    """Compared with all pairs of orders of the reached places."""

    def check(self, net, gate):
        right = sorted(paper for paper in every_paper(net, gate) if plain_lie(net, gate, paper) is None)
        self.assertEqual(len({low for low, high in right}), len(right))
        self.assertEqual(papers_many(net, gate), len(right))
        self.assertEqual([paper_numbered(net, gate, number) for number in range(len(right))], right)
        self.assertEqual([number_of(net, gate, paper) for paper in right], list(range(len(right))))
        for number in (-1, len(right), len(right) + 1, -len(right), LONG, -LONG):
            self.assertRaises(NoSuch, paper_numbered, net, gate, number)
        return len(right)

    def test_every_net_of_up_to_three_places(self):
        for many in (1, 2, 3):
            for net in every_net(many):
                for gate in range(many):
                    self.check(net, gate)

    def test_nets_of_four_places(self):
        for net in list(every_net(4))[::11]:
            self.check(net, 2)

    def test_nets_of_five_places(self):
        chance = random.Random(51)
        counts = {self.check(net, chance.randrange(5)) for net in shaped_nets(52, 8, 5, 5)}
        self.assertGreater(len(counts), 3)

    def test_papers_that_lie_have_no_number(self):
        for net in list(every_net(3))[::5]:
            for paper in every_paper(net, 1):
                if plain_lie(net, 1, paper) is not None:
                    self.assertRaises(NoPaper, number_of, net, 1, paper)


class LargerNets(unittest.TestCase):
    def check_numbers(self, net, gate, numbers):
        """Each number's paper holds, has that number, and stands behind those of lesser numbers."""
        papers = [paper_numbered(net, gate, number) for number in numbers]
        for number, paper in zip(numbers, papers):
            self.assertIsNone(plain_lie(net, gate, paper))
            self.assertEqual(number_of(net, gate, paper), number)
        lows = [low for low, high in papers]
        self.assertTrue(all(low < later for low, later in zip(lows, lows[1:])))

    def check_count(self, net, gate):
        """The count is that of the orders that fit, family by family."""
        many = 1
        for place in reach(net, gate):
            kin = plain_family(net, gate, place)
            many *= len([order for order in permutations(kin[0]) if plain_fits(kin, order)])
        self.assertEqual(papers_many(net, gate), many)
        return many

    def test_nets_of_each_shape(self):
        chance = random.Random(53)
        counted = 0
        for net in shaped_nets(54, 25, 5, 24):
            gate = chance.randrange(net[0])
            if is_too_many(net, gate):
                self.assertRaises(TooMany, papers_many, net, gate)
                continue
            many = self.check_count(net, gate)
            some = set(chance.choices(range(many), k=8))
            numbers = sorted(some | {0, many - 1} | {min(many - 1, number + 1) for number in some})
            self.check_numbers(net, gate, numbers if many > 60 else list(range(many)))
            self.assertRaises(NoSuch, paper_numbered, net, gate, -1)
            self.assertRaises(NoSuch, paper_numbered, net, gate, many)
            paper = paper_of(net, gate)
            self.assertEqual(paper_numbered(net, gate, number_of(net, gate, paper)), paper)
            counted += many > 1
        self.assertGreater(counted, 30)

    def test_a_great_count(self):
        many = 120 ** 4 * 6
        self.assertEqual(papers_many(BROAD, 0), many)
        chance = random.Random(55)
        near = [0, 1, 5, 6, 119, 120, many // 5 - 1, many // 5, many // 2, many - 2, many - 1]
        self.check_numbers(BROAD, 0, sorted(set(near + [chance.randrange(many) for turn in range(20)])))
        for number in (-1, -many, many, many + 1, LONG, -LONG):
            self.assertRaises(NoSuch, paper_numbered, BROAD, 0, number)


class Refused(unittest.TestCase):
    def test_just_five_children(self):
        self.assertEqual(papers_many(FIVE, 0), 120)
        self.assertEqual(paper_numbered(FIVE, 0, 0), ((0, 1, 2, 3, 4, 5), (0, 5, 4, 3, 2, 1)))
        self.assertEqual(paper_numbered(FIVE, 0, 119), ((0, 5, 4, 3, 2, 1), (0, 1, 2, 3, 4, 5)))
        self.assertEqual(number_of(FIVE, 0, ((0, 1, 2, 3, 5, 4), (0, 4, 5, 3, 2, 1))), 1)

    def test_more_than_five_children(self):
        star = (24, tuple((0, place) for place in range(1, 24)))
        for net in (SIX, SIX_BELOW, star):
            paper = paper_of(net, 0)
            self.assertRaises(TooMany, papers_many, net, 0)
            self.assertRaises(TooMany, number_of, net, 0, paper)
            # TooMany goes ahead of NoSuch, and NoPaper ahead of TooMany.
            for number in (0, 1, -1, 10 ** 9, LONG, -LONG):
                self.assertRaises(TooMany, paper_numbered, net, 0, number)
            for lying in (((), ()), (paper[0], paper[0]), (paper[0][:-1], paper[1]), (paper[0] + (LONG,), paper[1])):
                self.assertRaises(NoPaper, number_of, net, 0, lying)

    def test_families_that_are_not_reached_do_not_count(self):
        self.assertEqual(papers_many(SIX, 3), 1)
        self.assertEqual(papers_many(SIX_BELOW, 7), 1)
        self.assertRaises(TooMany, papers_many, SIX_BELOW, 1)

    def test_no_papers(self):
        right = paper_numbered(FIVE, 0, 17)
        for lying in (
            ((), ()), ((0,), (0,)), (right[0], right[0]), (right[0], right[1][:-1]), (right[0] + (6,), right[1] + (6,)),
            (right[0][1:] + (0,), right[1]), ((-1,) * 400, (LONG,)),
        ):
            self.assertRaises(NoPaper, number_of, FIVE, 0, lying)


class Told(unittest.TestCase):
    def test_tuples_all_through_and_the_same_again(self):
        asked = []
        for net in shaped_nets(56, 8, 2, 20):
            if not is_too_many(net, 0):
                asked += [(papers_many, net, 0), (paper_numbered, net, 0, papers_many(net, 0) // 2)]
                asked += [(number_of, net, 0, paper_of(net, 0))]
        first = [call(*given) for call, *given in asked]
        self.assertTrue(all(is_told(told) for told in first))
        self.assertEqual([call(*given) for call, *given in asked[::-1]], first[::-1])

    def test_somewhat_beyond_the_limits(self):
        net = (30, tuple((place, place + 1) for place in range(29)))
        self.assertEqual(papers_many(net, 0), 1)
        self.assertEqual(paper_numbered(net, 0, 0), (tuple(range(30)),) * 2)


if __name__ == "__main__":
    unittest.main()
