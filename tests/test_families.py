import random
import unittest
from itertools import permutations

from plainly import (
    all_pairs, every_net, every_paper, is_by_holders, is_told, plain_family, plain_fits, plain_musts, reach,
    shaped_nets,
)
from waymusts.errors import NotReached
from waymusts.families import family, fits
from waymusts.making import paper_of
from waymusts.papers import holds

# From 0 by 4 (a must of the rest), on two sides to 2, from there by one lane to 1; 5 isn't reached, but leads in.
NET = (7, ((0, 4), (2, 1), (3, 2), (4, 3), (4, 6), (5, 1), (5, 4), (6, 2)))
# The gate 0 holds 1, 2 and 3; 4 is below 1, 5 below 4, and from 5 lanes lead to 2, 3, 1, and the gate.
DEEP = (6, ((0, 1), (0, 2), (1, 3), (1, 4), (2, 3), (4, 5), (5, 0), (5, 1), (5, 2), (5, 3)))
STAR = (24, tuple((0, place) for place in range(1, 24)))
NO_CHILDREN = ((), (), ())
CHILDREN = tuple(range(24))


class Family(unittest.TestCase):
    def test_by_hand(self):
        self.assertEqual(family(NET, 0, 0), ((4,), (4,), ()))
        self.assertEqual(family(NET, 0, 4), ((2, 3, 6), (3, 6), ((3, 2), (6, 2))))
        self.assertEqual(family(NET, 0, 2), ((1,), (1,), ()))
        for place in (1, 3, 6):
            self.assertEqual(family(NET, 0, place), NO_CHILDREN)
        self.assertEqual(family(NET, 5, 5), ((1, 4), (1, 4), ((4, 1),)))
        self.assertEqual(family((1, ()), 0, 0), NO_CHILDREN)
        self.assertEqual(family(STAR, 0, 0), (tuple(range(1, 24)), tuple(range(1, 24)), ()))

    def test_arcs_from_places_below(self):
        self.assertEqual(family(DEEP, 0, 0), ((1, 2, 3), (1, 2), ((1, 2), (1, 3), (2, 3))))
        self.assertEqual(family(DEEP, 0, 1), ((4,), (4,), ()))
        self.assertEqual(family(DEEP, 0, 4), ((5,), (5,), ()))
        # Two lanes from below one child to another one are one arc, and lanes from below to itself are none.
        net = (5, ((0, 1), (0, 2), (1, 2), (1, 3), (1, 4), (3, 1), (3, 2), (4, 1), (4, 2)))
        self.assertEqual(family(net, 0, 0), ((1, 2), (1, 2), ((1, 2),)))

    def test_arcs_are_rising_pairs(self):
        # The lanes (3, 2) and (5, 2) give the arcs (3, 2) and (1, 2): rising by children, not by lanes.
        net = (6, ((0, 1), (0, 2), (0, 3), (1, 5), (3, 2), (5, 2)))
        self.assertEqual(family(net, 0, 0), ((1, 2, 3), (1, 2, 3), ((1, 2), (3, 2))))

    def test_what_is_not_reached(self):
        self.assertRaises(NotReached, family, NET, 0, 5)
        self.assertRaises(NotReached, family, NET, 1, 0)
        self.assertRaises(NotReached, family, (24, ()), 0, 23)
        self.assertRaises(NotReached, family, STAR, 5, 0)

    def check(self, net, gate):
        for place in range(net[0]):
            if place not in reach(net, gate):
                self.assertRaises(NotReached, family, net, gate, place)
                continue
            told = family(net, gate, place)
            self.assertTrue(is_told(told))
            self.assertEqual(told, plain_family(net, gate, place))

    def test_every_net_of_up_to_three_places(self):
        for many in (1, 2, 3):
            for net in every_net(many):
                for gate in range(many):
                    self.check(net, gate)

    def test_nets_of_four_places(self):
        for net in list(every_net(4))[::7]:
            self.check(net, 1)

    def test_larger_nets(self):
        chance = random.Random(41)
        for net in shaped_nets(42, 15, 5, 24):
            self.check(net, chance.randrange(net[0]))


class Fits(unittest.TestCase):
    def fit(self, told, order, right):
        self.assertIs(fits(told, order), right)
        self.assertIs(fits(told, order[::-1]), right)

    def test_by_hand(self):
        told = family(NET, 0, 4)
        for order, right in (((3, 2, 6), True), ((2, 3, 6), False), ((3, 6, 2), False)):
            self.fit(told, order, right)

    def test_without_children(self):
        self.fit(NO_CHILDREN, (), True)

    def test_one_child(self):
        self.fit(((7,), (7,), ()), (7,), True)
        self.fit(((7,), (), ()), (7,), False)

    def test_led_ones_need_nothing(self):
        for order in permutations((1, 5, 9)):
            self.fit(((1, 5, 9), (1, 5, 9), ()), order, True)
            self.fit(((1, 5, 9), (1, 5, 9), ((1, 5), (9, 5))), order, True)
            self.fit(((1, 5, 9), (1, 5, 9), ((1, 5),)), order, True)

    def test_arcs_are_from_one_to_the_other(self):
        self.fit(((1, 2, 3), (1, 3), ((2, 1), (2, 3))), (1, 2, 3), False)
        self.fit(((1, 2, 3), (1, 3), ((1, 2), (2, 3))), (1, 2, 3), False)
        self.fit(((1, 2, 3), (1, 3), ((1, 2), (3, 2))), (1, 2, 3), True)
        # One arc is not enough, nor are two from the same side.
        self.fit(((1, 2, 3, 4), (1, 3, 4), ((1, 2), (3, 2))), (1, 3, 2, 4), False)
        self.fit(((1, 2, 3, 4), (1, 3, 4), ((1, 2), (3, 2), (4, 2))), (1, 3, 2, 4), True)

    def test_families_that_no_net_has(self):
        # Nothing is led: the outer two can't have arcs from both sides.
        everything = tuple(all_pairs(24))[:400]
        self.fit(((1, 2), (), ((1, 2), (2, 1))), (1, 2), False)
        self.fit((CHILDREN, (), everything), CHILDREN, False)
        self.fit((CHILDREN, (0, 23), everything), CHILDREN, plain_fits((CHILDREN, (0, 23), everything), CHILDREN))
        neighbours = tuple((one, other) for one, other in all_pairs(24) if abs(one - other) == 1)
        self.fit((CHILDREN, (0, 23), neighbours), CHILDREN, True)
        self.fit((CHILDREN, (0,), neighbours), CHILDREN, False)
        self.fit((CHILDREN, (0, 23), neighbours[:20] + neighbours[21:]), CHILDREN, False)
        self.fit((CHILDREN, (0, 23), neighbours), (1, 0) + CHILDREN[2:], False)

    def test_any_families(self):
        chance = random.Random(43)
        both = set()
        for turn in range(600):
            children = tuple(sorted(chance.sample(range(30), chance.randint(0, 24))))
            led = tuple(sorted(chance.sample(children, chance.randint(0, len(children)))))
            pairs = [(one, other) for one in children for other in children if one != other]
            arcs = tuple(sorted(chance.sample(pairs, chance.randint(0, min(400, len(pairs))))))
            order = tuple(chance.sample(children, len(children)))
            right = plain_fits((children, led, arcs), order)
            self.fit((children, led, arcs), order, right)
            both.add((right, len(children) > 3))
        self.assertEqual(len(both), 4)

    def test_small_families_with_every_order(self):
        chance = random.Random(44)
        for turn in range(200):
            children = tuple(sorted(chance.sample(range(24), chance.randint(1, 4))))
            led = tuple(child for child in children if chance.random() < 0.6)
            arcs = tuple((one, other) for one in children for other in children
                         if one != other and chance.random() < 0.6)
            for order in permutations(children):
                self.fit((children, led, arcs), order, plain_fits((children, led, arcs), order))


class PapersByFamilies(unittest.TestCase):
    def test_each_family_stands_in_an_order_that_fits(self):
        chance = random.Random(45)
        for net in shaped_nets(46, 20, 2, 24):
            gate = chance.randrange(net[0])
            low, high = paper_of(net, gate)
            for place in low:
                told = family(net, gate, place)
                for order in (low, high):
                    self.assertIs(fits(told, tuple(child for child in order if child in told[0])), True)

    def test_small_nets_all_pairs_of_orders(self):
        # A paper holds just where it is a walk by the holders and each family stands in an order that fits.
        for net in list(every_net(4))[::17]:
            told = plain_musts(net, 0)
            families = [family(net, 0, place) for place in sorted(told)]
            for paper in every_paper(net, 0):
                fitting = [fits(kin, tuple(child for child in paper[0] if child in kin[0])) for kin in families]
                self.assertIs(holds(net, 0, paper), is_by_holders(paper, told) and all(fitting))


class Told(unittest.TestCase):
    def test_the_same_again_with_others_between(self):
        asked = [(net, 0, place) for net in shaped_nets(47, 8, 2, 24) for place in sorted(reach(net, 0))]
        first = [family(*given) for given in asked]
        self.assertTrue(all(is_told(told) for told in first))
        self.assertEqual([family(*given) for given in asked[::-1]], first[::-1])

    def test_somewhat_beyond_the_limits(self):
        children = tuple(range(1, 30))
        self.assertEqual(family((30, tuple((0, place) for place in children)), 0, 0), (children, children, ()))
        self.assertIs(fits((children, children, ()), children[::-1]), True)


if __name__ == "__main__":
    unittest.main()
