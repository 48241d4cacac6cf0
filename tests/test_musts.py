import random
import unittest

from plainly import all_pairs, every_net, is_told, reach, some_nets, ways_of
from waymusts.errors import NotReached
from waymusts.musts import cut_off, holders, must_lanes, musts, shared_must
from waymusts.ways import least_way, reached

# From 0 by 4 (a must of the rest), on two sides to 2, from there by one lane to 1; 5 isn't reached, but leads in.
NET = (7, ((0, 4), (2, 1), (3, 2), (4, 3), (4, 6), (5, 1), (5, 4), (6, 2)))
LINE = (24, tuple((place, place + 1) for place in range(23)))
BACK = (24, tuple((place, place - 1) for place in range(1, 24)))
NO_LANES = (24, ())
THICK = (24, tuple(all_pairs(24)[:120]))


def by_all_ways(net, gate, place):
    """The musts and the must lanes, each in the order of each of the ways, which is one order."""
    ways = ways_of(net, gate, place)
    steps = [list(zip(way, way[1:])) for way in ways]
    orders = {tuple(here for here in way if all(here in other for other in ways)) for way in ways}
    lanes = {tuple(lane for lane in these if all(lane in other for other in steps)) for these in steps}
    (order,), (lane_order,) = orders, lanes
    return order, lane_order


class ByHand(unittest.TestCase):
    def test_musts(self):
        self.assertEqual(musts(NET, 0, 0), (0,))
        self.assertEqual(musts(NET, 0, 4), (0, 4))
        self.assertEqual(musts(NET, 0, 3), (0, 4, 3))
        self.assertEqual(musts(NET, 0, 6), (0, 4, 6))
        self.assertEqual(musts(NET, 0, 2), (0, 4, 2))
        self.assertEqual(musts(NET, 0, 1), (0, 4, 2, 1))
        self.assertEqual(musts(NET, 5, 1), (5, 1))
        self.assertEqual(musts((1, ()), 0, 0), (0,))
        self.assertEqual(musts(LINE, 0, 23), tuple(range(24)))
        self.assertEqual(musts(BACK, 23, 0), tuple(range(23, -1, -1)))

    def test_holders(self):
        self.assertEqual(holders(NET, 0), (0, 2, 4, 4, 0, None, 4))
        self.assertEqual(holders(NET, 5), (None, 5, 4, 4, 5, 5, 4))
        self.assertEqual(holders((1, ()), 0), (0,))
        self.assertEqual(holders(LINE, 0), (0,) + tuple(range(23)))
        self.assertEqual(holders(LINE, 23), (None,) * 23 + (23,))
        self.assertEqual(holders(BACK, 23), tuple(range(1, 24)) + (23,))
        self.assertEqual(holders(NO_LANES, 3), (None,) * 3 + (3,) + (None,) * 20)

    def test_cut_off(self):
        self.assertEqual(cut_off(NET, 0, 0), (0, 1, 2, 3, 4, 6))
        self.assertEqual(cut_off(NET, 0, 4), (1, 2, 3, 4, 6))
        self.assertEqual(cut_off(NET, 0, 2), (1, 2))
        self.assertEqual(cut_off(NET, 0, 3), (3,))
        self.assertEqual(cut_off(NET, 0, 1), (1,))
        self.assertEqual(cut_off((1, ()), 0, 0), (0,))
        self.assertEqual(cut_off(BACK, 23, 20), tuple(range(21)))

    def test_shared_must(self):
        self.assertEqual(shared_must(NET, 0, [1]), 1)
        self.assertEqual(shared_must(NET, 0, (3, 6)), 4)
        self.assertEqual(shared_must(NET, 0, [1, 2]), 2)
        self.assertEqual(shared_must(NET, 0, [2, 1]), 2)
        self.assertEqual(shared_must(NET, 0, [1, 3]), 4)
        self.assertEqual(shared_must(NET, 0, (1, 0)), 0)
        self.assertEqual(shared_must(NET, 0, (0,)), 0)
        self.assertEqual(shared_must(NET, 0, [1, 1, 1]), 1)
        self.assertEqual(shared_must(NET, 0, [1, 3] * 200), 4)
        self.assertEqual(shared_must(NET, 0, (1,) * 400), 1)
        self.assertEqual(shared_must(NET, 5, (1, 2)), 5)

    def test_must_lanes(self):
        self.assertEqual(must_lanes(NET, 0, 0), ())
        self.assertEqual(must_lanes(NET, 0, 4), ((0, 4),))
        self.assertEqual(must_lanes(NET, 0, 2), ((0, 4),))
        self.assertEqual(must_lanes(NET, 0, 1), ((0, 4), (2, 1)))
        self.assertEqual(must_lanes(NET, 5, 1), ())
        self.assertEqual(must_lanes((1, ()), 0, 0), ())
        self.assertEqual(must_lanes(LINE, 0, 23), LINE[1])
        self.assertEqual(must_lanes(BACK, 23, 0), BACK[1][::-1])


class Refused(unittest.TestCase):
    def refused(self, call, *given):
        with self.assertRaises(NotReached):
            call(*given)

    def test_what_is_not_reached(self):
        for call in (musts, cut_off, must_lanes):
            self.refused(call, NET, 0, 5)
            self.refused(call, NET, 1, 0)
            self.refused(call, NO_LANES, 0, 23)
            self.refused(call, LINE, 1, 0)

    def test_shared_must_where_one_is_not_reached(self):
        for places in ([5], (5,), [1, 5], [5, 1], (1, 3, 5, 6), [0, 5], [1] * 399 + [5]):
            self.refused(shared_must, NET, 0, places)

    def test_just_where_it_is_not_reached(self):
        for net in some_nets(11, 60, 2, 9):
            for place in range(1, net[0]):
                if place in reach(net, 0):
                    continue
                for call in (musts, cut_off, must_lanes):
                    self.refused(call, net, 0, place)
                self.refused(shared_must, net, 0, (0, place))
                self.assertIsNone(holders(net, 0)[place])


class Compared(unittest.TestCase):
    def check_with_all_ways(self, net, gate):
        held = holders(net, gate)
        for place in sorted(reach(net, gate)):
            order, lanes = by_all_ways(net, gate, place)
            self.assertEqual(musts(net, gate, place), order)
            self.assertEqual(must_lanes(net, gate, place), lanes)
            self.assertEqual(held[place], order[-2] if place != gate else gate)

    def check_with_closing(self, net, gate):
        whole = reach(net, gate)
        held = holders(net, gate)
        self.assertEqual(len(held), net[0])
        self.assertEqual(held[gate], gate)
        for place in range(net[0]):
            if place not in whole:
                self.assertIsNone(held[place])
                continue
            told = musts(net, gate, place)
            self.assertEqual(set(told), {must for must in whole if place not in reach(net, gate, (must,))})
            self.assertEqual(len(set(told)), len(told))
            way = least_way(net, gate, place, ())
            self.assertEqual(told, tuple(here for here in way if here in told))
            if place != gate:
                self.assertEqual(told, musts(net, gate, held[place]) + (place,))
            self.assertEqual(cut_off(net, gate, place), tuple(sorted(whole - reach(net, gate, (place,)))))
            lanes = must_lanes(net, gate, place)
            self.assertEqual(set(lanes), {lane for lane in net[1] if place not in reach(net, gate, (), lane)})
            self.assertEqual(lanes, tuple(lane for lane in zip(way, way[1:]) if lane in lanes))

    def check_shared(self, net, gate, places):
        lines = [musts(net, gate, place) for place in places]
        right = [must for must in lines[0] if all(must in line for line in lines)][-1]
        self.assertEqual(shared_must(net, gate, list(places)), right)
        self.assertEqual(shared_must(net, gate, tuple(places)), right)

    def test_every_net_of_up_to_three_places(self):
        for many in (1, 2, 3):
            for net in every_net(many):
                for gate in range(many):
                    self.check_with_all_ways(net, gate)
                    self.check_with_closing(net, gate)

    def test_every_net_of_four_places_from_one_gate(self):
        for net in every_net(4):
            self.check_with_all_ways(net, 1)

    def test_nets_of_up_to_seven_places(self):
        for net in some_nets(12, 150, 4, 7):
            for gate in range(net[0]):
                self.check_with_all_ways(net, gate)
                self.check_with_closing(net, gate)

    def test_large_nets(self):
        for net in list(some_nets(13, 40, 18, 24)) + [LINE, BACK, THICK, NO_LANES]:
            for gate in (0, net[0] // 2, net[0] - 1):
                self.check_with_closing(net, gate)

    def test_shared_must(self):
        chance = random.Random(14)
        for net in list(some_nets(15, 80, 2, 24)) + [NET, LINE, BACK]:
            whole = sorted(reach(net, 0))
            for turn in range(5):
                self.check_shared(net, 0, chance.choices(whole, k=chance.randint(1, 5)))


class Told(unittest.TestCase):
    def test_tuples_all_through_and_the_same_again(self):
        for net in list(some_nets(16, 30, 2, 24)) + [NET, LINE, NO_LANES]:
            asked = [(holders, net, 0), (reached, net, 0)]
            for place in sorted(reach(net, 0)):
                asked += [(call, net, 0, place) for call in (musts, cut_off, must_lanes)]
                asked += [(shared_must, net, 0, (0, place)), (shared_must, net, 0, [place])]
            first = [call(*given) for call, *given in asked]
            self.assertTrue(all(is_told(told) for told in first))
            self.assertEqual([call(*given) for call, *given in asked[::-1]], first[::-1])

    def test_lists_stay_as_they_were(self):
        for given in ([1, 3, 1, 6], [6, 6, 3], [1]):
            before = list(given)
            shared_must(NET, 0, given)
            self.assertEqual(given, before)
        given = [1, 5, 3]
        self.assertRaises(NotReached, shared_must, NET, 0, given)
        self.assertEqual(given, [1, 5, 3])

    def test_somewhat_beyond_the_limits(self):
        net = (30, tuple(sorted([(place, place + 1) for place in range(29)] + all_pairs(20)[:150])))
        self.assertEqual(reached(net, 0), tuple(range(30)))
        self.assertEqual(holders(net, 0)[29], 28)
        self.assertEqual(musts(net, 0, 29)[-10:], tuple(range(20, 30)))
        self.assertEqual(must_lanes(net, 0, 29)[-1], (28, 29))
        self.assertEqual(cut_off(net, 0, 25), (25, 26, 27, 28, 29))
        self.assertEqual(shared_must(net, 0, [29] * 500), 29)
        self.assertIsNone(least_way(net, 0, 29, [25] * 500))


if __name__ == "__main__":
    unittest.main()
