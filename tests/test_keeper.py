import random
import unittest

from plainly import all_pairs, is_told, net_of, plain_holders, plain_lie, shaped_nets, some_nets
from waymusts.errors import NoLane, NoPlace, NothingLeft
from waymusts.keeper import Keeper
from waymusts.making import paper_of
from waymusts.nets import is_net
from waymusts.papers import holds

NET = (4, ((0, 1), (0, 2), (1, 3), (2, 3)))
LINE = (24, tuple((place, place + 1) for place in range(23)))
STAR = (24, tuple((0, place) for place in range(1, 24)))
FULL = net_of(24, all_pairs(24)[:120])
LONG = 10 ** 60 - 1


def told_by(keeper):
    return (keeper.net(), keeper.closed(), keeper.gate(), keeper.paper(), keeper.holders(), keeper.made())


def without_closed(net, closed):
    return (net[0], tuple(lane for lane in net[1] if not set(lane) & set(closed)))


def plain_news(elder, newer):
    return tuple((place, elder[place], newer[place]) for place in range(len(elder)) if elder[place] != newer[place])


class Book:
    """What a keeper was told, kept as sets, each deed with what was ahead of it and behind it."""

    def __init__(self, net, gate):
        self.many, self.gate = net[0], gate
        self.lanes, self.closed = frozenset(net[1]), frozenset()
        self.done, self.undone = [], []

    def net(self):
        return (self.many, tuple(sorted(self.lanes)))

    def refusal(self, word, given):
        if word in ("back", "again"):
            return None if (self.done if word == "back" else self.undone) else NothingLeft
        if word == "put":
            right = given[0] != given[1] and all(0 <= place < self.many for place in given)
            return None if right and given not in self.lanes and len(self.lanes) < 120 else NoLane
        if word == "drop":
            return None if given in self.lanes else NoLane
        if word == "close":
            right = 0 <= given[0] < self.many and given[0] != self.gate and given[0] not in self.closed
            return None if right else NoPlace
        return None if given[0] in self.closed else NoPlace

    def do(self, word, given):
        here = (self.lanes, self.closed)
        if word == "back":
            self.undone.append(here)
            self.lanes, self.closed = self.done.pop()
        elif word == "again":
            self.done.append(here)
            self.lanes, self.closed = self.undone.pop()
        else:
            self.done.append(here)
            self.undone = []
            if word in ("put", "drop"):
                self.lanes = self.lanes ^ {given}
            else:
                self.closed = self.closed ^ {given[0]}


class Followed(unittest.TestCase):
    """Keepers compared with books, deed by deed."""

    def step(self, keeper, book, word, given, hold=lambda net, gate, paper: plain_lie(net, gate, paper) is None):
        ahead = told_by(keeper)
        refusal = book.refusal(word, given)
        if refusal:
            with self.assertRaises(refusal) as caught:
                getattr(keeper, word)(*given)
            self.assertIs(type(caught.exception), refusal)
            self.assertEqual(told_by(keeper), ahead)
            return None
        net_before = without_closed(book.net(), book.closed)
        news = getattr(keeper, word)(*given)
        book.do(word, given)
        net_now = without_closed(book.net(), book.closed)
        behind = told_by(keeper)
        self.assertTrue(is_told(news) and is_told(behind))
        self.assertEqual(behind[:3], (book.net(), tuple(sorted(book.closed)), book.gate))
        self.assertTrue(is_net(keeper.net()))
        self.assertEqual(keeper.holders(), plain_holders(net_now, book.gate))
        self.assertEqual(news, plain_news(plain_holders(net_before, book.gate), keeper.holders()))
        self.assertTrue(hold(net_now, book.gate, keeper.paper()))
        if hold(net_now, book.gate, ahead[3]):
            self.assertEqual((keeper.paper(), keeper.made()), (ahead[3], ahead[5]))
        else:
            self.assertNotEqual(keeper.paper(), ahead[3])
            self.assertEqual(keeper.made(), ahead[5] + 1)
        return news

    def deed(self, chance, book, words):
        """A deed that is most often not refused."""
        word = chance.choice(words)
        if word in ("back", "again"):
            return word, ()
        if chance.random() < 0.12:
            odd = (-1, book.many, LONG, -LONG, 0, book.gate, book.many - 1)
            return word, tuple(chance.choices(odd, k=2 if word in ("put", "drop") else 1))
        if word == "put":
            return word, tuple(chance.choices(range(book.many), k=2))
        if word == "drop":
            return word, chance.choice(sorted(book.lanes) or [(0, 1)])
        if word == "close":
            return word, (chance.randrange(book.many),)
        return word, (chance.choice(sorted(book.closed) or [0]),)

    def follow(self, seed, net, gate, many, words, **hold):
        chance = random.Random(seed)
        keeper, book = Keeper(net, gate), Book(net, gate)
        self.assertEqual(told_by(keeper)[:3], (net, (), gate))
        self.assertEqual(keeper.made(), 1)
        self.assertEqual(keeper.holders(), plain_holders(net, gate))
        self.assertIsNone(plain_lie(net, gate, keeper.paper()))
        told = [self.step(keeper, book, *self.deed(chance, book, words), **hold) for turn in range(many)]
        return keeper, told

    ALL = ("put", "put", "put", "drop", "drop", "close", "reopen", "reopen", "back", "back", "again")

    def test_lanes(self):
        chance = random.Random(111)
        made = empty = 0
        for net in shaped_nets(112, 4, 2, 12):
            keeper, told = self.follow(113, net, chance.randrange(net[0]), 25, ("put", "drop"))
            made += keeper.made() - 1
            empty += told.count(())
        self.assertGreater(made, 30)
        self.assertGreater(empty, 30)

    def test_lanes_and_places(self):
        chance = random.Random(114)
        for net in shaped_nets(115, 3, 2, 10):
            self.follow(116, net, chance.randrange(net[0]), 30, ("put", "drop", "close", "reopen"))

    def test_all_deeds(self):
        chance = random.Random(117)
        for turn, net in enumerate(shaped_nets(118, 4, 1, 10)):
            self.follow(turn, net, chance.randrange(net[0]), 50, self.ALL)

    def test_large_nets_and_long_runs(self):
        for turn, net in enumerate(list(some_nets(119, 3, 18, 24)) + [STAR, LINE, FULL]):
            self.follow(turn, net, turn, 120, self.ALL, hold=holds)

    def test_four_hundred_deeds(self):
        net = next(some_nets(120, 1, 12, 12))
        self.follow(121, net, 3, 400, self.ALL[:-3], hold=holds)

    def test_taken_back_to_the_beginning_and_done_again(self):
        for turn, net in enumerate(shaped_nets(122, 2, 3, 12)):
            chance = random.Random(turn)
            keeper, book = Keeper(net, 0), Book(net, 0)
            states, all_news = [(keeper.net(), keeper.closed(), keeper.holders())], []
            while len(all_news) < 60:
                word, given = self.deed(chance, book, ("put", "drop", "close", "reopen"))
                if not book.refusal(word, given):
                    all_news.append(getattr(keeper, word)(*given))
                    book.do(word, given)
                    states.append((keeper.net(), keeper.closed(), keeper.holders()))
            for twice in range(2):
                for news, state in zip(all_news[::-1], states[-2::-1]):
                    self.assertEqual(keeper.back(), tuple((place, new, old) for place, old, new in news))
                    self.assertEqual((keeper.net(), keeper.closed(), keeper.holders()), state)
                    left = without_closed(keeper.net(), keeper.closed())
                    self.assertTrue(holds(left, 0, keeper.paper()))
                self.assertRaises(NothingLeft, keeper.back)
                for news, state in zip(all_news, states[1:]):
                    self.assertEqual(keeper.again(), news)
                    self.assertEqual((keeper.net(), keeper.closed(), keeper.holders()), state)
                self.assertRaises(NothingLeft, keeper.again)


class Lanes(unittest.TestCase):
    def test_by_hand(self):
        keeper = Keeper(NET, 0)
        self.assertEqual(keeper.holders(), (0, 0, 0, 0))
        self.assertEqual(keeper.drop(2, 3), ((3, 0, 1),))
        self.assertEqual(keeper.net(), (4, ((0, 1), (0, 2), (1, 3))))
        self.assertEqual(keeper.drop(0, 1), ((1, 0, None), (3, 1, None)))
        self.assertEqual(keeper.paper(), ((0, 2), (0, 2)))
        self.assertEqual(keeper.holders(), (0, None, 0, None))
        self.assertEqual(keeper.put(3, 1), ())
        self.assertEqual(keeper.put(2, 1), ((1, None, 2), (3, None, 1)))
        self.assertEqual(keeper.paper(), ((0, 2, 1, 3), (0, 2, 1, 3)))
        self.assertEqual(keeper.net(), (4, ((0, 2), (1, 3), (2, 1), (3, 1))))
        self.assertEqual(keeper.put(0, 3), ((1, 2, 0), (3, 1, 0)))
        self.assertEqual(keeper.gate(), 0)

    def test_the_paper_stays_while_it_holds(self):
        keeper = Keeper(NET, 0)
        paper = keeper.paper()
        self.assertEqual((paper, keeper.made()), (paper_of(NET, 0), 1))
        # Lanes to the gate, and one from 0 to 3, change no must.
        for lane in ((3, 0), (1, 0), (0, 3)):
            self.assertEqual(keeper.put(*lane), ())
            self.assertEqual((keeper.paper(), keeper.made()), (paper, 1))
        # Now 1 and 2 may go without 3 being any the worse, but they themselves would not be reached.
        self.assertEqual(keeper.drop(1, 3), ())
        self.assertEqual((keeper.paper(), keeper.made()), (paper, 1))
        self.assertEqual(keeper.drop(0, 3), ((3, 0, 2),))
        self.assertNotEqual(keeper.paper(), paper)
        self.assertEqual(keeper.made(), 2)
        # Where the elder paper would hold again the newer one goes on if it holds, else one is made.
        self.assertEqual(keeper.put(0, 3), ((3, 2, 0),))
        self.assertEqual(keeper.made(), 3)

    def test_another_paper_without_news(self):
        # Whichever of the three stands last needs the gate's own lane, though the gate holds it without it too.
        net = net_of(4, [(0, 1), (0, 2), (0, 3)] + [(a + 1, b + 1) for a, b in all_pairs(3)])
        keeper = Keeper(net, 0)
        before = keeper.paper()
        last = before[0][-1]
        self.assertEqual(keeper.drop(0, last), ())
        self.assertNotEqual(keeper.paper(), before)
        self.assertEqual(keeper.made(), 2)
        self.assertIsNone(plain_lie(keeper.net(), 0, keeper.paper()))
        now = keeper.paper()
        self.assertEqual(keeper.back(), ())
        self.assertEqual((keeper.paper(), keeper.made()), (now, 2))

    def test_lanes_that_cannot_be_put_in(self):
        keeper = Keeper(NET, 2)
        keeper.put(3, 0)
        keeper.drop(0, 1)
        keeper.back()
        ahead = told_by(keeper)
        for lane in (
            (0, 2), (1, 3), (3, 0), (0, 0), (3, 3), (4, 0), (0, 4), (4, 4), (-1, 0), (0, -1), (-1, -2), (-4, 1),
            (LONG, 0), (0, LONG), (-LONG, LONG), (LONG, LONG), (24, 23), (4, 5),
        ):
            with self.subTest(lane=lane):
                self.assertRaises(NoLane, keeper.put, *lane)
                self.assertEqual(told_by(keeper), ahead)
        # What was refused is no deed: the deed taken back can still be done again, and the one ahead taken back.
        keeper.again()
        self.assertEqual(keeper.net(), (4, ((0, 2), (1, 3), (2, 3), (3, 0))))
        keeper.back()
        self.assertEqual(told_by(keeper)[:3], ahead[:3])
        keeper.back()
        self.assertEqual(keeper.net(), NET)
        self.assertRaises(NothingLeft, keeper.back)

    def test_lanes_that_cannot_be_dropped(self):
        keeper = Keeper(NET, 0)
        keeper.drop(0, 1)
        keeper.back()
        ahead = told_by(keeper)
        for lane in (
            (1, 0), (2, 0), (0, 3), (0, 0), (4, 0), (0, 4), (-1, 0), (0, -1), (LONG, 0), (0, -LONG), (LONG, LONG),
        ):
            with self.subTest(lane=lane):
                self.assertRaises(NoLane, keeper.drop, *lane)
                self.assertEqual(told_by(keeper), ahead)
        self.assertRaises(NothingLeft, keeper.back)
        keeper.again()
        self.assertEqual(keeper.net(), (4, ((0, 2), (1, 3), (2, 3))))
        self.assertRaises(NoLane, keeper.drop, 0, 1)

    def test_the_last_lane_that_there_is_room_for(self):
        more = all_pairs(24)[120:]
        keeper = Keeper(FULL, 0)
        ahead = told_by(keeper)
        for lane in more[:5] + more[-5:] + [FULL[1][0]]:
            self.assertRaises(NoLane, keeper.put, *lane)
            self.assertEqual(told_by(keeper), ahead)
        keeper.drop(*FULL[1][7])
        keeper.put(*more[3])
        self.assertEqual(len(keeper.net()[1]), 120)
        self.assertRaises(NoLane, keeper.put, *FULL[1][7])
        keeper.back()
        keeper.put(*FULL[1][7])
        self.assertEqual(keeper.net(), FULL)
        # Lanes of closed places are there all the same, and are counted.
        keeper.close(1)
        self.assertRaises(NoLane, keeper.put, *more[3])

    def test_one_place(self):
        keeper = Keeper((1, ()), 0)
        self.assertEqual(told_by(keeper), ((1, ()), (), 0, ((0,), (0,)), (0,), 1))
        self.assertRaises(NoLane, keeper.put, 0, 0)
        self.assertRaises(NoLane, keeper.drop, 0, 0)
        self.assertRaises(NoPlace, keeper.close, 0)
        self.assertRaises(NoPlace, keeper.reopen, 0)
        self.assertRaises(NothingLeft, keeper.back)
        self.assertRaises(NothingLeft, keeper.again)


class Places(unittest.TestCase):
    def test_by_hand(self):
        keeper = Keeper(NET, 0)
        self.assertEqual(keeper.close(2), ((2, 0, None), (3, 0, 1)))
        self.assertEqual((keeper.net(), keeper.closed()), (NET, (2,)))
        self.assertEqual(keeper.paper(), ((0, 1, 3), (0, 1, 3)))
        self.assertEqual(keeper.holders(), (0, 0, None, 1))
        self.assertEqual(keeper.close(1), ((1, 0, None), (3, 1, None)))
        self.assertEqual((keeper.net(), keeper.closed()), (NET, (1, 2)))
        self.assertEqual(keeper.close(3), ())
        self.assertEqual(keeper.closed(), (1, 2, 3))
        self.assertEqual(keeper.reopen(2), ((2, None, 0),))
        self.assertEqual(keeper.closed(), (1, 3))
        self.assertEqual(keeper.reopen(3), ((3, None, 2),))
        self.assertEqual(keeper.reopen(1), ((1, None, 0), (3, 2, 0)))
        self.assertEqual(keeper.closed(), ())
        self.assertEqual(keeper.net(), NET)

    def test_lanes_of_closed_places(self):
        keeper = Keeper(NET, 0)
        keeper.close(3)
        ahead = told_by(keeper)
        for word, lane in (("drop", (1, 3)), ("put", (3, 0)), ("put", (0, 3)), ("drop", (2, 3)), ("put", (3, 1))):
            self.assertEqual(getattr(keeper, word)(*lane), ())
            self.assertEqual(told_by(keeper)[1:], ahead[1:])
        self.assertEqual(keeper.net(), (4, ((0, 1), (0, 2), (0, 3), (3, 0), (3, 1))))
        self.assertRaises(NoLane, keeper.put, 0, 3)
        self.assertRaises(NoLane, keeper.drop, 1, 3)
        self.assertEqual(keeper.reopen(3), ((3, None, 0),))
        self.assertIsNone(plain_lie(keeper.net(), 0, keeper.paper()))

    def test_places_that_cannot_be_closed(self):
        keeper = Keeper(NET, 1)
        keeper.close(3)
        keeper.close(0)
        keeper.back()
        ahead = told_by(keeper)
        for place in (1, 3, 4, 5, 24, -1, -4, LONG, -LONG):
            with self.subTest(place=place):
                self.assertRaises(NoPlace, keeper.close, place)
                self.assertEqual(told_by(keeper), ahead)
        keeper.again()
        self.assertEqual(keeper.closed(), (0, 3))

    def test_places_that_cannot_be_opened(self):
        keeper = Keeper(NET, 1)
        keeper.close(3)
        keeper.close(0)
        keeper.back()
        ahead = told_by(keeper)
        for place in (0, 1, 2, 4, 24, -1, LONG, -LONG):
            with self.subTest(place=place):
                self.assertRaises(NoPlace, keeper.reopen, place)
                self.assertEqual(told_by(keeper), ahead)
        keeper.again()
        keeper.reopen(0)
        self.assertRaises(NoPlace, keeper.reopen, 0)
        self.assertEqual(keeper.closed(), (3,))


class BackAndAgain(unittest.TestCase):
    def test_by_hand(self):
        keeper = Keeper(NET, 0)
        self.assertRaises(NothingLeft, keeper.back)
        self.assertRaises(NothingLeft, keeper.again)
        keeper.drop(2, 3)
        keeper.close(1)
        self.assertEqual(keeper.back(), ((1, None, 0), (3, None, 1)))
        self.assertEqual((keeper.net(), keeper.closed()), ((4, NET[1][:3]), ()))
        self.assertEqual(keeper.back(), ((3, 1, 0),))
        self.assertEqual((keeper.net(), keeper.closed()), (NET, ()))
        self.assertRaises(NothingLeft, keeper.back)
        self.assertEqual(keeper.again(), ((3, 0, 1),))
        self.assertEqual(keeper.again(), ((1, 0, None), (3, 1, None)))
        self.assertRaises(NothingLeft, keeper.again)
        self.assertEqual((keeper.net(), keeper.closed()), ((4, NET[1][:3]), (1,)))

    def test_behind_a_new_deed_nothing_is_done_again(self):
        for word, given in (("put", (3, 0)), ("drop", (0, 1)), ("close", (1,)), ("reopen", (3,))):
            keeper = Keeper(NET, 0)
            keeper.close(3)
            keeper.put(1, 2)
            keeper.back()
            getattr(keeper, word)(*given)
            ahead = told_by(keeper)
            self.assertRaises(NothingLeft, keeper.again)
            self.assertEqual(told_by(keeper), ahead)
            keeper.back()
            self.assertEqual((keeper.net(), keeper.closed()), (NET, (3,)))
            keeper.back()
            self.assertEqual((keeper.net(), keeper.closed()), (NET, ()))
            self.assertRaises(NothingLeft, keeper.back)

    def test_a_refused_deed_leaves_what_can_be_done_again(self):
        keeper = Keeper(NET, 0)
        keeper.put(1, 2)
        keeper.back()
        for word, given, refusal in (
            ("put", (0, 1), NoLane), ("drop", (3, 0), NoLane), ("close", (0,), NoPlace), ("reopen", (1,), NoPlace),
            ("back", (), NothingLeft),
        ):
            self.assertRaises(refusal, getattr(keeper, word), *given)
        keeper.again()
        self.assertEqual(keeper.net(), net_of(4, NET[1] + ((1, 2),)))
        self.assertRaises(NothingLeft, keeper.again)


class Told(unittest.TestCase):
    def test_two_keepers_of_one_net(self):
        one, other = Keeper(NET, 0), Keeper(NET, 0)
        ahead = told_by(other)
        one.drop(0, 1)
        one.close(2)
        one.put(0, 3)
        self.assertEqual(told_by(other), ahead)
        self.assertRaises(NothingLeft, other.back)
        behind = told_by(one)
        other.close(1)
        other.back()
        other.again()
        self.assertEqual(told_by(one), behind)
        self.assertRaises(NothingLeft, one.again)
        self.assertEqual(NET, (4, ((0, 1), (0, 2), (1, 3), (2, 3))))

    def test_what_was_told_stays(self):
        keeper = Keeper(NET, 0)
        first = told_by(keeper)
        written = repr(first)
        news = keeper.drop(0, 1)
        news_written = repr(news)
        keeper.close(2)
        keeper.back()
        keeper.back()
        self.assertEqual(repr(first), written)
        self.assertEqual(repr(news), news_written)

    def test_the_same_deeds_are_answered_the_same(self):
        net = next(some_nets(123, 1, 14, 14))

        def run():
            keeper = Keeper(net, 2)
            told = [keeper.drop(*lane) for lane in net[1][::3]] + [keeper.close(place) for place in (1, 5, 9)]
            return told + [keeper.back() for turn in range(5)] + [keeper.again(), told_by(keeper), told_by(keeper)]

        first = run()
        self.assertTrue(is_told(tuple(first)))
        self.assertEqual(run(), first)

    def test_somewhat_beyond_the_limits(self):
        keeper = Keeper((30, tuple((place, place + 1) for place in range(29))), 0)
        for turn in range(250):
            keeper.close(29)
            keeper.reopen(29)
        for turn in range(500):
            keeper.back()
        self.assertRaises(NothingLeft, keeper.back)


if __name__ == "__main__":
    unittest.main()
