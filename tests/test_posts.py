import random
import unittest

from plainly import all_pairs, every_net, is_told, net_of, plain_holders, reach, round_nets, shaped_nets, ways_of
from waymusts.errors import NoRound, NotReached
from waymusts.nets import turned
from waymusts.posts import leads_round, musts_back, parted_by, posts

RING = net_of(24, [(place, (place + 1) % 24) for place in range(24)])
LINE = (24, tuple((place, place + 1) for place in range(23)))
THICK = net_of(11, all_pairs(11))
# Two rounds of three that have 2 in common.
EIGHT = net_of(5, [(0, 1), (1, 2), (2, 0), (2, 3), (3, 4), (4, 2)])
# From 0 and 5 to 4, by 1 or by 2 to 3; 6 is not on any way to 4.
BACK = (7, ((0, 1), (0, 2), (1, 3), (2, 3), (3, 4), (4, 6), (5, 3)))


def plain_parted(net, place):
    """All pairs, each looked at by letting places grow."""
    return tuple(
        (one, other) for one, other in all_pairs(net[0])
        if place not in (one, other) and other in reach(net, one) and other not in reach(net, one, (place,))
    )


def parted_by_ways(net, place):
    """All pairs, each looked at by all its ways."""
    found = []
    for one, other in all_pairs(net[0]):
        ways = ways_of(net, one, other)
        if place not in (one, other) and ways and all(place in way for way in ways):
            found.append((one, other))
    return tuple(found)


def plain_round(net):
    return all(reach(net, place) == set(range(net[0])) for place in range(net[0]))


class MustsBack(unittest.TestCase):
    def test_by_hand(self):
        self.assertEqual(musts_back(BACK, 4, 4), (4,))
        self.assertEqual(musts_back(BACK, 4, 3), (3, 4))
        self.assertEqual(musts_back(BACK, 4, 1), (1, 3, 4))
        self.assertEqual(musts_back(BACK, 4, 0), (0, 3, 4))
        self.assertEqual(musts_back(BACK, 4, 5), (5, 3, 4))
        self.assertEqual(musts_back(BACK, 6, 0), (0, 3, 4, 6))
        self.assertEqual(musts_back((1, ()), 0, 0), (0,))
        self.assertEqual(musts_back(LINE, 23, 0), tuple(range(24)))
        self.assertEqual(musts_back(RING, 5, 6), tuple(range(6, 24)) + tuple(range(6)))

    def test_refused(self):
        for gate, place in ((4, 6), (0, 1), (1, 2), (5, 0), (0, 4)):
            self.assertRaises(NotReached, musts_back, BACK, gate, place)
        self.assertRaises(NotReached, musts_back, LINE, 0, 23)
        self.assertRaises(NotReached, musts_back, (24, ()), 0, 1)

    def test_by_all_ways(self):
        for net in list(every_net(3)) + list(shaped_nets(61, 8, 4, 7)):
            for gate in range(net[0]):
                for place in range(net[0]):
                    ways = ways_of(net, place, gate)
                    if ways:
                        right = {tuple(here for here in way if all(here in other for other in ways)) for way in ways}
                        self.assertEqual({musts_back(net, gate, place)}, right)
                    else:
                        self.assertRaises(NotReached, musts_back, net, gate, place)

    def test_by_closing_each_place(self):
        chance = random.Random(62)
        for net in list(shaped_nets(63, 20, 2, 24)) + list(round_nets(64, 20, 2, 24)):
            gate = chance.randrange(net[0])
            for place in range(net[0]):
                if gate not in reach(net, place):
                    self.assertRaises(NotReached, musts_back, net, gate, place)
                    continue
                told = musts_back(net, gate, place)
                self.assertTrue(is_told(told))
                right = {must for must in range(net[0]) if gate not in reach(net, place, (must,))}
                self.assertEqual((told[0], told[-1], set(told), len(told)), (place, gate, right, len(right)))
                # Each must is a must of the way on from those told ahead of it.
                for spot, must in enumerate(told):
                    self.assertEqual(musts_back(net, gate, must), told[spot:])


class PartedBy(unittest.TestCase):
    def test_by_hand(self):
        self.assertEqual(parted_by(EIGHT, 0), ((2, 1), (3, 1), (4, 1)))
        crossing = ((0, 3), (0, 4), (1, 0), (1, 3), (1, 4), (3, 0), (3, 1), (4, 0), (4, 1), (4, 3))
        self.assertEqual(parted_by(EIGHT, 2), crossing)
        self.assertEqual(parted_by((3, ((0, 1), (1, 2))), 1), ((0, 2),))
        self.assertEqual(parted_by((3, ((0, 1), (1, 2))), 0), ())
        self.assertEqual(parted_by((3, ((0, 1), (1, 2))), 2), ())
        self.assertEqual(parted_by((3, ((0, 1), (0, 2), (1, 2))), 1), ())
        self.assertEqual(parted_by((3, ((0, 1), (1, 0), (1, 2), (2, 1))), 1), ((0, 2), (2, 0)))
        self.assertEqual(parted_by((1, ()), 0), ())
        self.assertEqual(parted_by((2, ((0, 1), (1, 0))), 0), ())
        self.assertEqual(parted_by((24, ()), 7), ())
        self.assertEqual(parted_by(LINE, 0), ())
        self.assertEqual(parted_by(LINE, 2), tuple((a, b) for a in (0, 1) for b in range(3, 24)))
        self.assertEqual(parted_by(THICK, 3), ())

    def test_by_all_ways(self):
        for net in list(every_net(3)) + list(every_net(4))[::17] + list(shaped_nets(65, 5, 4, 7)):
            for place in range(net[0]):
                self.assertEqual(parted_by(net, place), parted_by_ways(net, place))

    def test_by_all_pairs(self):
        chance = random.Random(66)
        some = 0
        for net in list(shaped_nets(67, 6, 2, 24)) + list(round_nets(68, 10, 2, 24)):
            for place in chance.sample(range(net[0]), min(3, net[0])):
                told = parted_by(net, place)
                self.assertTrue(is_told(told))
                self.assertEqual(told, plain_parted(net, place))
                self.assertEqual(list(told), sorted(set(told)))
                self.assertTrue(all(len({place, one, other}) == 3 for one, other in told))
                some += told != ()
        self.assertGreater(some, 30)


class LeadsRound(unittest.TestCase):
    def test_by_hand(self):
        for net in ((1, ()), (2, ((0, 1), (1, 0))), RING, THICK, EIGHT, turned(RING)):
            self.assertIs(leads_round(net), True)
        for net in ((2, ()), (2, ((0, 1),)), (2, ((1, 0),)), LINE, turned(LINE), (24, ()), BACK):
            self.assertIs(leads_round(net), False)
        # All are reached from 0 and lead back but for one that doesn't lead back, or isn't led to.
        self.assertIs(leads_round((3, ((0, 1), (0, 2), (1, 0)))), False)
        self.assertIs(leads_round((3, ((0, 1), (1, 0), (2, 0)))), False)
        self.assertIs(leads_round((24, RING[1][:11] + RING[1][12:])), False)

    def test_every_net_of_up_to_four_places(self):
        for many in (1, 2, 3, 4):
            for net in every_net(many):
                self.assertIs(leads_round(net), plain_round(net))

    def test_larger_nets(self):
        chance = random.Random(69)
        kinds = set()
        for net in list(shaped_nets(70, 10, 2, 24)) + list(round_nets(71, 40, 2, 24)):
            thinner = (net[0], tuple(sorted(chance.sample(net[1], max(0, len(net[1]) - 1)))))
            for one in (net, thinner):
                self.assertIs(leads_round(one), plain_round(one))
                kinds.add(plain_round(one))
        self.assertEqual(kinds, {True, False})


class Posts(unittest.TestCase):
    def check(self, net):
        told = posts(net)
        self.assertTrue(is_told(told))
        self.assertEqual(told, tuple(place for place in range(net[0]) if plain_parted(net, place)))
        return told

    def test_by_hand(self):
        self.assertEqual(posts((1, ())), ())
        self.assertEqual(posts((2, ((0, 1), (1, 0)))), ())
        self.assertEqual(posts((3, ((0, 1), (1, 2), (2, 0)))), (0, 1, 2))
        self.assertEqual(posts((3, ((0, 1), (1, 0), (1, 2), (2, 1)))), (1,))
        self.assertEqual(posts((3, ((0, 1), (0, 2), (1, 0), (2, 0)))), (0,))
        self.assertEqual(posts((3, tuple(all_pairs(3)))), ())
        self.assertEqual(posts(RING), tuple(range(24)))
        self.assertEqual(posts(THICK), ())
        self.assertEqual(posts(EIGHT), (0, 1, 2, 3, 4))

    def test_refused(self):
        for net in ((2, ()), (2, ((0, 1),)), LINE, turned(LINE), (24, ()), BACK, (3, ((0, 1), (0, 2), (1, 0)))):
            self.assertRaises(NoRound, posts, net)

    def test_every_net_of_up_to_four_places(self):
        for many in (1, 2, 3, 4):
            for net in every_net(many):
                if plain_round(net):
                    self.check(net)
                else:
                    self.assertRaises(NoRound, posts, net)

    def test_larger_nets(self):
        counts = {len(self.check(net)) - net[0] for net in round_nets(72, 30, 2, 14)}
        self.assertGreater(len(counts), 4)
        for net in round_nets(73, 4, 20, 24):
            self.check(net)

    def test_a_post_holds_a_place_from_any_gate_but_itself(self):
        chance = random.Random(74)
        for net in round_nets(75, 30, 2, 24):
            gate = chance.randrange(net[0])
            held = plain_holders(net, gate) + plain_holders(turned(net), gate)
            right = {place for place in held if place != gate}
            self.assertEqual(set(posts(net)) - {gate}, right)
            left = set(range(net[0])) - {gate}
            still_round = all(reach(net, place, (gate,)) == left for place in left)
            self.assertEqual(gate in posts(net), not still_round)


class Told(unittest.TestCase):
    def test_the_same_again_with_others_between(self):
        asked = []
        for net in round_nets(76, 10, 2, 24):
            asked += [(posts, net), (leads_round, net), (parted_by, net, 1), (musts_back, net, 0, 1)]
        first = [call(*given) for call, *given in asked]
        self.assertTrue(all(is_told(told) for told in first))
        self.assertEqual([call(*given) for call, *given in asked[::-1]], first[::-1])

    def test_somewhat_beyond_the_limits(self):
        ring = net_of(30, [(place, (place + 1) % 30) for place in range(30)])
        self.assertEqual(posts(ring), tuple(range(30)))
        self.assertEqual(musts_back(ring, 0, 1), tuple(range(1, 30)) + (0,))


if __name__ == "__main__":
    unittest.main()
