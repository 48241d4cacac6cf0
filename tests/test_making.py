import random
import unittest

from plainly import (
    all_pairs, every_net, is_by_holders, is_told, mixed, net_of, plain_lie, plain_musts, shaped_nets, stands_above,
)
from waymusts.making import paper_of

LINE = (24, tuple((place, place + 1) for place in range(23)))
THICK = (24, tuple(all_pairs(24)[:120]))
STAR = (24, tuple((0, place) for place in range(1, 24)))

# Of the gate's children only 1 and 2 are led; the others hang on one another, also in rounds.
ROUNDS = net_of(9, [
    (0, 1), (0, 2), (1, 3), (1, 8), (2, 5), (3, 4), (4, 5), (4, 7), (5, 3), (5, 6), (6, 7), (7, 6), (7, 8),
])


class Making(unittest.TestCase):
    def check(self, net, gate):
        paper = paper_of(net, gate)
        self.assertTrue(is_told(paper))
        self.assertEqual([type(order) for order in paper], [tuple, tuple])
        self.assertIsNone(plain_lie(net, gate, paper), (net, gate))
        return paper

    def test_by_hand(self):
        self.assertEqual(paper_of((1, ()), 0), ((0,), (0,)))
        self.assertEqual(paper_of((24, ()), 9), ((9,), (9,)))
        self.assertEqual(paper_of(LINE, 0), (tuple(range(24)),) * 2)
        self.assertEqual(paper_of(LINE, 21), ((21, 22, 23),) * 2)
        self.assertIn(paper_of((3, ((0, 1), (0, 2))), 0), (((0, 1, 2), (0, 2, 1)), ((0, 2, 1), (0, 1, 2))))

    def test_nets_of_special_shapes(self):
        for net in (LINE, THICK, STAR, ROUNDS):
            for gate in range(net[0]):
                self.check(net, gate)

    def test_every_net_of_up_to_three_places(self):
        for many in (1, 2, 3):
            for net in every_net(many):
                for gate in range(many):
                    self.check(net, gate)

    def test_every_net_of_four_places(self):
        for net in every_net(4):
            self.check(net, 3)

    def test_each_number_of_places_and_every_gate(self):
        for many in range(1, 25):
            for net in shaped_nets(30 + many, 2, many, many):
                for gate in range(net[0]):
                    self.check(net, gate)

    def test_larger_nets(self):
        chance = random.Random(31)
        for net in shaped_nets(32, 80, 16, 24):
            for gate in chance.sample(range(net[0]), 3):
                self.check(net, gate)

    def test_families_that_hang_on_a_few_led_ones(self):
        # Each place is led by two or three others, wherever they stand, so there are rounds among those not led.
        chance = random.Random(33)
        for turn in range(150):
            many = chance.randint(4, 24)
            lanes = {(0, place) for place in chance.sample(range(1, many), 2)}
            for place in range(1, many):
                lanes |= {(one, place) for one in chance.sample(range(1, many), chance.randint(2, 3))}
            self.check(mixed(chance, many, sorted(lanes)[:120]), chance.randrange(many))
            self.check(net_of(many, [lane for lane in sorted(lanes) if lane[0] != lane[1]]), 0)

    def test_thick_nets(self):
        chance = random.Random(34)
        for turn in range(20):
            many = chance.randint(11, 24)
            self.check(net_of(many, chance.sample(all_pairs(many), 110)), chance.randrange(many))
            self.check(net_of(many, chance.sample(all_pairs(many), 110)), chance.randrange(many))

    def test_the_orders_are_walks_of_the_holders(self):
        chance = random.Random(35)
        for net in list(shaped_nets(36, 15, 2, 24)) + [ROUNDS, STAR, LINE]:
            gate = chance.randrange(net[0])
            told = plain_musts(net, gate)
            low, high = paper_of(net, gate)
            self.assertTrue(is_by_holders((low, high), told))
            for place in told:
                above = {other for other in told if stands_above((low, high), other, place)}
                self.assertEqual(above | {place}, told[place])

    def test_the_same_again_with_others_between(self):
        asked = [(net, gate) for net in shaped_nets(37, 8, 2, 24) for gate in range(0, net[0], 5)]
        first = [paper_of(net, gate) for net, gate in asked]
        self.assertEqual([paper_of(net, gate) for net, gate in asked[::-1]], first[::-1])
        self.assertEqual([paper_of(net, gate) for net, gate in asked], first)

    def test_somewhat_beyond_the_limits(self):
        self.check((30, tuple((place, place + 1) for place in range(29))), 0)
        self.check((30, tuple(all_pairs(30)[:200])), 3)


if __name__ == "__main__":
    unittest.main()
