import unittest

from plainly import all_pairs, every_net, is_told, net_of, some_nets
from waymusts.nets import is_net, turned

NETS = (
    (1, ()),
    (2, ()),
    (24, ()),
    (2, ((0, 1),)),
    (2, ((1, 0),)),
    (2, ((0, 1), (1, 0))),
    (3, ((0, 1), (0, 2), (1, 0), (2, 1))),
    (24, ((0, 23), (23, 0))),
    (24, tuple(all_pairs(24)[:119])),
    (24, tuple(all_pairs(24)[:120])),
    (24, tuple(all_pairs(24)[-120:])),
)

LONG = 10 ** 60 - 1

NO_NETS = (
    # how many places
    (0, ()), (25, ()), (-1, ()), (LONG, ()), (-LONG, ()), (25, ((0, 1),)), (1, ((0, 1),)),
    # how many lanes
    (24, tuple(all_pairs(24)[:121])), (24, tuple(all_pairs(24)[:400])),
    # lanes twice, or not rising
    (2, ((0, 1), (0, 1))), (3, ((0, 1), (0, 2), (0, 2))), (3, ((0, 2), (0, 1))), (3, ((1, 0), (0, 2))),
    (3, ((0, 1), (1, 2), (0, 2))), (3, ((0, 1), (1, 2), (0, 1))),
    # lanes of wrong places
    (2, ((0, 0),)), (2, ((1, 1),)), (3, ((0, 1), (1, 1), (1, 2))), (2, ((0, 2),)), (2, ((2, 0),)), (2, ((0, -1),)),
    (2, ((-1, 0),)), (2, ((-2, -1),)), (24, ((0, 24),)), (24, ((24, 0),)), (2, ((0, LONG),)), (2, ((-LONG, 0),)),
    # lanes of wrong forms
    (2, ([0, 1],)), (2, ((),)), (2, ((0,),)), (3, ((0, 1, 2),)), (2, (0, 1)), (2, (0,)), (2, ("01",)), (2, ("",)),
    (2, (None,)), (2, ((0, None),)), (2, ((None, 0),)), (2, (("0", "1"),)), (2, ((0, "1"),)), (2, (((0,), (1,)),)),
    (2, (((0, 1),),)), (3, ((0, 1), [0, 2])), (3, ((0, 1), None)), (3, (None, (0, 1))), (3, ((0, 1), (0, "2"))),
    (3, ((0, 1), (0, (2,)))), (3, ((0, 1), ())), (3, ((0, 1), 2)),
    # truths
    (True, ()), (False, ()), (2, ((False, True),)), (2, ((0, True),)), (2, ((False, 1),)), (2, ((True, 0),)),
    (3, ((0, True), (1, 2))), (2, True), (2, False), (2, (True,)), (True, False),
    # wrong forms of the whole
    [2, ((0, 1),)], [2, [[0, 1]]], (2, [(0, 1)]), (2, []), (2, [[0, 1]]), (2,), (), [], (2, (), ()), (2, (), None),
    ((), 2), ((2, ()),), ([2], ()), ((2,), ()), ("2", ()), (None, ()), (2, None), (2, 0), (2, ""), (2, "01"),
    (2, "0>1"), (None, None),
    # other things
    None, True, False, 0, 1, 2, -1, LONG, -LONG, "", "2", "ab", "2 0>1", "a\nb", "x" * 2000, [None] * 400,
    (None,) * 400, (0,) * 400, ((((((),),),),),), [[[[[[]]]]]], ((2, ((0, (((1,),),)),)),), (2, ((((((0,), 1),),),),)),
    ((2, ((0, 1),)), (2, ((0, 1),))), ["2", ["0", ["1", [None, [True, [()]]]]]],
)


class IsNet(unittest.TestCase):
    def test_nets(self):
        for net in NETS:
            with self.subTest(net=net):
                self.assertIs(is_net(net), True)

    def test_other_things(self):
        for thing in NO_NETS:
            with self.subTest(thing=thing):
                self.assertIs(is_net(thing), False)

    def test_each_number_of_places(self):
        for many in range(-30, 60):
            self.assertIs(is_net((many, ())), 1 <= many <= 24)

    def test_each_number_of_lanes(self):
        for count in range(200):
            self.assertIs(is_net((24, tuple(all_pairs(24)[:count]))), count <= 120)

    def test_each_lane(self):
        for one in range(-2, 6):
            for other in range(-2, 6):
                right = 0 <= one < 4 and 0 <= other < 4 and one != other
                self.assertIs(is_net((4, ((one, other),))), right)

    def test_every_order_of_two_lanes(self):
        for first in all_pairs(3):
            for second in all_pairs(3):
                self.assertIs(is_net((3, (first, second))), first < second)

    def test_every_net_of_three_places(self):
        for net in every_net(3):
            self.assertIs(is_net(net), True)

    def test_lists_stay_as_they_were(self):
        thing = [2, [[0, 1], [1, 0]]]
        is_net(thing)
        self.assertEqual(thing, [2, [[0, 1], [1, 0]]])


class Turned(unittest.TestCase):
    def test_by_hand(self):
        self.assertEqual(turned((1, ())), (1, ()))
        self.assertEqual(turned((24, ())), (24, ()))
        self.assertEqual(turned((2, ((0, 1),))), (2, ((1, 0),)))
        self.assertEqual(turned((2, ((0, 1), (1, 0)))), (2, ((0, 1), (1, 0))))
        self.assertEqual(turned((4, ((0, 3), (1, 2), (3, 2)))), (4, ((2, 1), (2, 3), (3, 0))))

    def check(self, net):
        told = turned(net)
        self.assertIs(is_net(told), True)
        self.assertTrue(is_told(told))
        self.assertEqual(told, net_of(net[0], [lane[::-1] for lane in net[1]]))
        self.assertEqual(turned(told), net)
        self.assertEqual(turned(net), told)

    def test_small_and_large_nets(self):
        for net in list(every_net(3)) + list(some_nets(1, 200, 2, 24)) + list(NETS):
            self.check(net)


if __name__ == "__main__":
    unittest.main()
