import random
import unittest

from plainly import all_pairs, every_net, is_told, net_of, reach, round_nets, shaped_nets, ways_of
from waymusts.errors import NotReached
from waymusts.musts import musts
from waymusts.stretches import stretches

# 0 to 3 by 1 or 2, from there by a lane to 4, from there by 5 to 6 with 7 going round; 8 leads in, 9 leads nowhere.
NET = net_of(10, [
    (0, 1), (0, 2), (1, 3), (2, 3), (3, 4), (4, 5), (4, 6), (5, 6), (5, 7), (7, 5), (8, 6), (1, 9), (6, 0), (4, 3),
])
LINE = (24, tuple((place, place + 1) for place in range(23)))


def plain_stretch(net, one, other):
    """What lies between two musts, by the document's words."""
    return tuple(
        place for place in range(net[0])
        if place not in (one, other) and place in reach(net, one, (other,)) and other in reach(net, place, (one,))
    )


def stretch_by_ways(net, one, other):
    """The same by all ways."""
    return tuple(
        place for place in range(net[0])
        if place not in (one, other)
        and [way for way in ways_of(net, one, place) if other not in way]
        and [way for way in ways_of(net, place, other) if one not in way]
    )


class Stretches(unittest.TestCase):
    def check(self, net, gate, place, stretch):
        told = stretches(net, gate, place)
        self.assertTrue(is_told(told))
        line = musts(net, gate, place)
        self.assertEqual(told, tuple(stretch(net, one, other) for one, other in zip(line, line[1:])))
        apart = [here for each in told for here in each]
        self.assertEqual(len(set(apart)), len(apart))
        self.assertFalse(set(apart) & set(line))
        self.assertTrue(all(list(each) == sorted(each) for each in told))
        return len(apart)

    def test_by_hand(self):
        self.assertEqual(stretches(NET, 0, 0), ())
        self.assertEqual(stretches(NET, 0, 1), ((),))
        self.assertEqual(stretches(NET, 0, 3), ((1, 2),))
        self.assertEqual(stretches(NET, 0, 4), ((1, 2), ()))
        self.assertEqual(stretches(NET, 0, 6), ((1, 2), (), (5, 7)))
        self.assertEqual(stretches(NET, 0, 7), ((1, 2), (), (), ()))
        self.assertEqual(stretches(NET, 0, 9), ((), ()))
        # From 6 on all lies on ways from there; 3 and 4 lead round, which puts neither in a stretch.
        self.assertEqual(stretches(NET, 6, 4), ((), (1, 2), ()))
        self.assertEqual(stretches((1, ()), 0, 0), ())
        self.assertEqual(stretches(LINE, 0, 23), ((),) * 23)
        self.assertEqual(stretches((24, ()), 9, 9), ())

    def test_a_wide_stretch(self):
        wide = net_of(24, [(0, place) for place in range(1, 23)] + [(place, 23) for place in range(1, 23)])
        self.assertEqual(stretches(wide, 0, 23), (tuple(range(1, 23)),))
        thick = net_of(11, all_pairs(11))
        self.assertEqual(stretches(thick, 4, 7), ((0, 1, 2, 3, 5, 6, 8, 9, 10),))

    def test_a_place_that_is_no_way_on(self):
        # 2 is reached from 0 and leads to 1, but only by 0 again.
        self.assertEqual(stretches((3, ((0, 1), (0, 2), (2, 0))), 0, 1), ((),))
        # 2 is reached only by 1 itself.
        self.assertEqual(stretches((3, ((0, 1), (1, 2), (2, 1))), 0, 1), ((),))

    def test_refused(self):
        self.assertRaises(NotReached, stretches, NET, 0, 8)
        self.assertRaises(NotReached, stretches, NET, 9, 0)
        self.assertRaises(NotReached, stretches, LINE, 5, 4)
        for net in shaped_nets(81, 8, 2, 12):
            for place in set(range(net[0])) - reach(net, 0):
                self.assertRaises(NotReached, stretches, net, 0, place)

    def test_by_all_ways(self):
        for net in list(every_net(3)) + list(every_net(4))[::23] + list(shaped_nets(82, 4, 4, 7)):
            for gate in range(net[0]):
                for place in reach(net, gate):
                    self.check(net, gate, place, stretch_by_ways)

    def test_larger_nets(self):
        chance = random.Random(83)
        some = 0
        for net in list(shaped_nets(84, 12, 2, 24)) + list(round_nets(85, 15, 2, 24)):
            gate = chance.randrange(net[0])
            for place in sorted(reach(net, gate)):
                some += self.check(net, gate, place, plain_stretch) > 1
        self.assertGreater(some, 100)

    def test_the_same_again_with_others_between(self):
        asked = [(net, 0, place) for net in shaped_nets(86, 4, 2, 24) for place in sorted(reach(net, 0))]
        first = [stretches(*given) for given in asked]
        self.assertEqual([stretches(*given) for given in asked[::-1]], first[::-1])

    def test_somewhat_beyond_the_limits(self):
        self.assertEqual(stretches((30, tuple((place, place + 1) for place in range(29))), 0, 29), ((),) * 29)


if __name__ == "__main__":
    unittest.main()
