"""What the document promises over the whole program: points 1, 2 and 3."""

import random
import unittest

from plainly import (
    all_pairs, has_truth, is_told, net_of, plain_holders, plain_lie, plain_musts, reach, round_nets, shaped_nets,
)
from waymusts import errors
from waymusts.apart import blockers, lane_blockers, lanes_apart, ways_apart
from waymusts.counted import number_of, paper_numbered, papers_many
from waymusts.desk import Desk
from waymusts.families import family, fits
from waymusts.keeper import Keeper
from waymusts.looker import Looker
from waymusts.making import paper_of
from waymusts.musts import cut_off, holders, must_lanes, musts, shared_must
from waymusts.nets import is_net, turned
from waymusts.papers import holds, lie_of, musts_by, two_ways
from waymusts.parts import exchanged, only, part_of
from waymusts.posts import leads_round, musts_back, parted_by, posts
from waymusts.stretches import stretches
from waymusts.texts import read_net, read_paper, read_places, show_net, show_paper, show_places
from waymusts.ways import is_way, least_way, reached

LONG = 10 ** 60 - 1
NET = (4, ((0, 1), (0, 2), (1, 3), (2, 3)))
SIX = (7, tuple((0, place) for place in range(1, 7)))

TRUTHS = (is_net, is_way, holds, fits, leads_round)


def questions(net, gate):
    """Questions of all kinds about a net, none of them refused."""
    paper = paper_of(net, gate)
    last = paper[0][-1]
    other = (gate + 1) % net[0]
    asked = [
        (is_net, net), (is_net, [net]), (turned, net), (is_way, net, (gate,)), (is_way, net, (gate, gate)),
        (least_way, net, gate, last, []), (least_way, net, gate, last, [last]), (reached, net, gate),
        (musts, net, gate, last), (holders, net, gate), (cut_off, net, gate, last),
        (shared_must, net, gate, [last, gate]), (must_lanes, net, gate, last), (lie_of, net, gate, paper),
        (lie_of, net, gate, ((), ())), (holds, net, gate, paper), (holds, net, gate, ((), ())), (musts_by, paper, last),
        (two_ways, net, gate, paper, last), (paper_of, net, gate), (family, net, gate, gate),
        (fits, family(net, gate, gate), family(net, gate, gate)[0]), (musts_back, turned(net), gate, last),
        (parted_by, net, last), (leads_round, net), (only, net, [gate, last]), (part_of, paper, last),
        (exchanged, paper, paper[::-1]), (stretches, net, gate, last), (show_net, net), (show_paper, paper),
        (show_places, paper[0]), (read_net, show_net(net)), (read_paper, show_paper(paper)),
        (read_places, show_places(paper[0])),
    ]
    if net[0] > 1:
        asked += [(call, net, gate, other) for call in (ways_apart, blockers, lanes_apart, lane_blockers)]
    if leads_round(net):
        asked.append((posts, net))
    if all(len(family(net, gate, place)[0]) <= 5 for place in paper[0]):
        asked += [(papers_many, net, gate), (paper_numbered, net, gate, 0), (number_of, net, gate, paper)]
    return asked


def answers(asked):
    return [call(*given) for call, *given in asked]


class Told(unittest.TestCase):
    def every_question(self, seed):
        chance = random.Random(seed)
        nets = list(shaped_nets(seed, 3, 1, 24)) + list(round_nets(seed, 6, 1, 24)) + [NET, SIX, (1, ()), (24, ())]
        return [one for net in nets for one in questions(net, chance.randrange(net[0]))]

    def test_the_promised_kinds_all_through(self):
        asked = self.every_question(181)
        for (call, *given), told in zip(asked, answers(asked)):
            self.assertTrue(is_told(told), call)
            if call in TRUTHS:
                self.assertIs(type(told), bool, call)
            else:
                self.assertFalse(has_truth(told), call)

    def test_asked_again_the_same_with_others_between(self):
        asked = self.every_question(182)
        written = repr(asked)
        first = answers(asked)
        self.assertEqual(answers(asked[::-1]), first[::-1])
        mixed = random.Random(183).sample(range(len(asked)), len(asked))
        for spot in mixed:
            call, *given = asked[spot]
            self.assertEqual(call(*given), first[spot])
        self.assertEqual(repr(asked), written)

    def test_lists_that_are_handed_in(self):
        net = next(iter(round_nets(184, 1, 12, 12)))
        for call, *given in (
            (least_way, net, 0, 5, [3, 3, 7]), (shared_must, net, 0, [5, 6, 5]), (only, net, [0, 4, 7, 4]),
            (is_net, [net, [1, [None, True]]]),
        ):
            lists = [part for part in given if isinstance(part, list)][0]
            before = repr(lists)
            told = call(*given)
            self.assertEqual(repr(lists), before)
            written = repr(told)
            lists.clear()
            lists.extend([0, 1, 2] * 10)
            self.assertEqual(repr(told), written)

    def test_keepers_lookers_and_desks_tell_the_promised_kinds(self):
        keeper, looker, desk = Keeper(NET, 0), Looker(0, paper_of(NET, 0)), Desk()
        told = [keeper.put(3, 0), keeper.drop(0, 1), keeper.close(2), keeper.reopen(2), keeper.back(), keeper.again()]
        told += [keeper.net(), keeper.closed(), keeper.gate(), keeper.paper(), keeper.holders(), keeper.made()]
        told += [looker.lane(0, 1), looker.lanes(), looker.drop(0, 1), desk.say("net 3 0>1"), desk.say("close 1")]
        self.assertTrue(all(is_told(one) and not has_truth(one) for one in told))
        self.assertIs(type(keeper.made()), int)
        self.assertIs(type(looker.holds()), bool)


class Refused(unittest.TestCase):
    def test_each_by_just_its_class(self):
        keeper, looker, desk = Keeper(NET, 0), Looker(0, ((0,), (0,))), Desk()
        paper = paper_of(NET, 0)
        for name, calls in {
            "NotReached": (
                (musts, NET, 1, 0), (cut_off, NET, 1, 2), (shared_must, NET, 1, [3, 0]), (must_lanes, NET, 3, 0),
                (two_ways, NET, 3, ((3,), (3,)), 0), (family, NET, 1, 0), (musts_back, NET, 0, 1), (stretches, NET, 1, 0),
                (desk_with("net 2").say, "musts 1"),
            ),
            "NoPaper": (
                (two_ways, NET, 0, ((), ()), 0), (number_of, SIX, 0, ((), ())), (exchanged, paper, ((LONG,), (LONG,))),
                (Looker, 0, ((), ())), (desk.say, "number - / -"),
            ),
            "TooMany": (
                (papers_many, SIX, 0), (paper_numbered, SIX, 0, -1), (number_of, SIX, 0, paper_of(SIX, 0)),
                (desk_with("net " + show_net(SIX)).say, "many"),
            ),
            "NoSuch": ((paper_numbered, NET, 0, -1), (paper_numbered, NET, 0, 2), (desk.say, "numbered 1")),
            "NoLane": (
                (keeper.put, 0, 1), (keeper.drop, 1, 0), (keeper.put, LONG, -LONG), (looker.lane, 0, 0),
                (looker.drop, 0, 1), (desk.say, "lane 0 0"),
            ),
            "NoPlace": ((keeper.close, 0), (keeper.close, LONG), (keeper.reopen, 1), (desk.say, "open 0")),
            "NothingLeft": ((keeper.back,), (keeper.again,), (desk.say, "undo"), (desk.say, "redo")),
            "NoRound": ((posts, NET), (desk_with("net 2").say, "posts")),
            "NoText": ((read_net, "0"), (read_places, ""), (read_paper, "0")),
            "NoRow": ((desk.say, ""), (desk.say, None), (desk.say, "gate 1"), (desk.say, "apart 0 0")),
        }.items():
            for call, *given in calls:
                with self.subTest(name=name, call=call, given=given):
                    with self.assertRaises(errors.WayError) as caught:
                        call(*given)
                    self.assertIs(type(caught.exception), getattr(errors, name))
                    self.assertIsInstance(caught.exception, ValueError)


def desk_with(row):
    desk = Desk()
    desk.say(row)
    return desk


class ThePromise(unittest.TestCase):
    def check_paper(self, net, gate, paper):
        told = plain_musts(net, gate)
        for place in told:
            line = musts_by(paper, place)
            self.assertEqual(line, musts(net, gate, place))
            self.assertEqual(set(line), told[place])
            low, high = two_ways(net, gate, paper, place)
            self.assertTrue(is_way(net, low) and is_way(net, high))
            self.assertEqual(set(low) & set(high), told[place])

    def test_each_net_with_any_gate(self):
        for net in list(shaped_nets(185, 3, 1, 24)) + [net_of(24, all_pairs(24)[:120])]:
            for gate in range(net[0]):
                paper = paper_of(net, gate)
                self.assertIsNone(lie_of(net, gate, paper))
                self.assertIsNone(plain_lie(net, gate, paper))
            self.check_paper(net, gate, paper)

    def test_each_number_has_a_paper_that_shows_the_musts(self):
        for net in shaped_nets(186, 6, 2, 12):
            try:
                many = papers_many(net, 0)
            except errors.TooMany:
                continue
            for number in range(min(many, 6)):
                paper = paper_numbered(net, 0, number)
                self.assertEqual(number_of(net, 0, paper), number)
                self.check_paper(net, 0, paper)

    def test_keeper_and_looker_through_the_same_deeds(self):
        chance = random.Random(187)
        for net in shaped_nets(188, 3, 3, 24):
            keeper = Keeper(net, 0)
            for turn in range(60):
                lane = tuple(chance.sample(range(net[0]), 2))
                there = keeper.net()[1]
                if lane not in there and len(there) == 120:
                    continue
                looker = Looker(0, keeper.paper())
                for each in there:
                    looker.lane(*each)
                self.assertIs(looker.holds(), True)
                ahead = keeper.made()
                (keeper.drop if lane in there else keeper.put)(*lane)
                (looker.drop if lane in there else looker.lane)(*lane)
                # The looker finds the paper to hold just where the keeper goes on with it.
                self.assertIs(looker.holds(), keeper.made() == ahead)
                self.assertEqual(keeper.holders(), plain_holders(keeper.net(), 0))
            self.check_paper(keeper.net(), 0, keeper.paper())

    def test_parts_posts_and_ways_apart(self):
        chance = random.Random(189)
        for net in round_nets(190, 20, 2, 24):
            gate, other = chance.sample(range(net[0]), 2)
            paper = paper_of(net, gate)
            part = part_of(paper, other)
            inner = only(net, part[0])
            newer = exchanged(paper, paper_of(inner, other))
            self.assertTrue(holds(net, gate, newer))
            self.check_paper(net, gate, newer)
            holding = set(holders(net, gate)) | set(holders(turned(net), gate))
            self.assertEqual(set(posts(net)) - {gate}, holding - {gate})
            self.assertEqual(len(lanes_apart(net, gate, other)), len(lane_blockers(net, gate, other)))
            if (gate, other) not in net[1]:
                self.assertEqual(len(ways_apart(net, gate, other)), len(blockers(net, gate, other)))
                # A must between the two is one place that blocks all ways, and else it takes two or more.
                alone = len(musts(net, gate, other)) > 2
                self.assertEqual(len(blockers(net, gate, other)) == 1, alone)

    def test_four_hundred_deeds_and_rows(self):
        keeper, desk = Keeper(NET, 0), desk_with("net " + show_net(NET))
        for turn in range(100):
            for row, deed in (("close 1", lambda: keeper.close(1)), ("undo", keeper.back), ("redo", keeper.again),
                              ("open 1", lambda: keeper.reopen(1))):
                told = deed()
                self.assertEqual(desk.say(row), " ".join(f"{a}:{b}:{c}" for a, b, c in told).replace("None", "none"))
        self.assertEqual(reach(NET, 0), set(keeper.paper()[0]))
        self.assertEqual((keeper.net(), desk.say("show")), (NET, show_net(NET)))


if __name__ == "__main__":
    unittest.main()
