import random
import unittest

from plainly import all_pairs, net_of, round_nets, shaped_nets, some_nets
from waymusts.apart import lanes_apart, ways_apart
from waymusts.counted import number_of, paper_numbered, papers_many
from waymusts.desk import Desk
from waymusts.errors import NoLane, NoPaper, NoPlace, NoRound, NoRow, NoSuch, NotReached, NothingLeft, TooMany, WayError
from waymusts.keeper import Keeper
from waymusts.making import paper_of
from waymusts.musts import cut_off, must_lanes, musts
from waymusts.papers import lie_of, two_ways
from waymusts.posts import musts_back, posts
from waymusts.stretches import stretches

NET = "5 0>1 1>2 1>3 2>4 3>4"
STAR = net_of(8, [(0, place) for place in range(1, 8)])


def places(told):
    return " ".join(str(place) for place in told) or "-"


def paper(told):
    return places(told[0]) + " / " + places(told[1])


def lanes(told):
    return " ".join(f"{one}>{other}" for one, other in told) or "-"


def net_text(net):
    return " ".join([str(net[0])] + [f"{one}>{other}" for one, other in net[1]])


def news(told):
    return " ".join(f"{place}:{elder}:{newer}".replace("None", "none") for place, elder, newer in told) or "same"


def plain_answer(keeper, word, *given):
    """What a desk with a like keeper answers to a row of numbers or a paper that is one."""
    many, every_lane = keeper.net()
    net = (many, tuple(lane for lane in every_lane if not set(lane) & set(keeper.closed())))
    gate = keeper.gate()
    deeds = {
        "lane": keeper.put, "drop": keeper.drop, "close": keeper.close, "open": keeper.reopen, "undo": keeper.back,
        "redo": keeper.again,
    }
    if word in deeds:
        return news(deeds[word](*given))
    return {
        "closed": lambda: places(keeper.closed()),
        "show": lambda: net_text(keeper.net()),
        "paper": lambda: paper(keeper.paper()),
        "look": lambda told: " ".join(map(str, lie_of(net, gate, told) or ["holds"])),
        "musts": lambda place: places(musts(net, gate, place)),
        "back": lambda place: places(musts_back(net, gate, place)),
        "ways": lambda place: paper(two_ways(net, gate, keeper.paper(), place)),
        "cut": lambda place: places(cut_off(net, gate, place)),
        "lanes": lambda place: lanes(must_lanes(net, gate, place)),
        "between": lambda place: " / ".join(places(each) for each in stretches(net, gate, place)) or "none",
        "many": lambda: str(papers_many(net, gate)),
        "numbered": lambda number: paper(paper_numbered(net, gate, number)),
        "number": lambda told: str(number_of(net, gate, told)),
        "apart": lambda one, other: f"{len(ways_apart(net, one, other))} {len(lanes_apart(net, one, other))}",
        "posts": lambda: places(posts(net)),
    }[word](*given)


def written(part):
    return paper(part) if isinstance(part, tuple) else str(part)


def desk_of(*rows):
    desk = Desk()
    for row in rows:
        desk.say(row)
    return desk


def seen(desk):
    """All that shows what a desk has, as far as it can be told without a change."""
    told = [desk.say(row) for row in ("show", "closed", "paper")]
    for row in ("musts 0", "many", "posts"):
        try:
            told.append(desk.say(row))
        except WayError as refusal:
            told.append(type(refusal))
    return told


class Checked(unittest.TestCase):
    def check_refused(self, desk, row, refusal):
        ahead = seen(desk)
        with self.assertRaises(refusal, msg=repr(row)) as caught:
            desk.say(row)
        self.assertIs(type(caught.exception), refusal)
        self.assertEqual(seen(desk), ahead)

    def check_row(self, desk, keeper, word, *given):
        """The desk's answer is what the like keeper and the functions tell, or it is refused likewise."""
        row = " ".join([word] + [written(part) for part in given])
        try:
            right = plain_answer(keeper, word, *given)
        except WayError as refusal:
            self.check_refused(desk, row, type(refusal))
            return type(refusal)
        told = desk.say(row)
        self.assertIs(type(told), str)
        self.assertEqual(told, right, row)
        return told


class ByHand(Checked):
    def say(self, desk, *pairs):
        for row, answer in pairs:
            with self.subTest(row=row):
                self.assertEqual(desk.say(row), answer)

    def test_a_new_desk(self):
        self.say(
            Desk(), ("show", "1"), ("closed", "-"), ("paper", "0 / 0"), ("look 0 / 0", "holds"), ("musts 0", "0"),
            ("back 0", "0"), ("ways 0", "0 / 0"), ("cut 0", "0"), ("lanes 0", "-"), ("between 0", "none"), ("many", "1"),
            ("numbered 0", "0 / 0"), ("number 0 / 0", "0"), ("posts", "-"), ("gate 0", "ok"), ("net 1", "ok"),
        )

    def test_what_is_asked(self):
        desk = desk_of("net " + NET)
        self.say(
            desk, ("show", NET), ("musts 4", "0 1 4"), ("musts 0", "0"), ("cut 1", "1 2 3 4"), ("cut 4", "4"),
            ("lanes 4", "0>1"), ("lanes 2", "0>1 1>2"), ("lanes 0", "-"), ("between 4", "- / 2 3"), ("between 1", "-"),
            ("between 0", "none"), ("many", "2"), ("numbered 0", "0 1 2 4 3 / 0 1 3 4 2"),
            ("numbered 1", "0 1 3 4 2 / 0 1 2 4 3"), ("number 0 1 3 4 2 / 0 1 2 4 3", "1"),
            ("look 0 1 3 4 2 / 0 1 2 4 3", "holds"), ("look 0 1 / 0 1", "places"), ("look - / -", "places"),
            ("look 999999 / 0", "places"), ("look 0 4 1 3 2 / 0 1 2 4 3", "low 4"),
            ("look 0 1 2 4 3 / 0 4 1 3 2", "high 4"), ("look 0 1 2 4 3 / 0 1 2 4 3", "lane 1 3"), ("apart 1 4", "2 2"),
            ("apart 0 4", "1 1"), ("apart 4 0", "0 0"), ("apart 0 1", "1 1"), ("back 0", "0"),
        )
        self.assertIn(desk.say("paper"), ("0 1 2 4 3 / 0 1 3 4 2", "0 1 3 4 2 / 0 1 2 4 3"))
        self.assertIn(desk.say("ways 4"), ("0 1 2 4 / 0 1 3 4", "0 1 3 4 / 0 1 2 4"))
        self.say(desk, ("gate 4", "ok"), ("back 0", "0 1 4"), ("back 4", "4"), ("musts 4", "4"), ("paper", "4 / 4"))

    def test_deeds(self):
        self.say(
            desk_of("net " + NET), ("drop 3 4", "4:1:2"), ("lane 4 0", "same"), ("close 1",
            "1:0:none 2:1:none 3:1:none 4:2:none"), ("closed", "1"), ("show", "5 0>1 1>2 1>3 2>4 4>0"), ("paper", "0 / 0"),
            ("lane 0 4", "4:none:0"), ("close 3", "same"), ("closed", "1 3"), ("open 1", "1:none:0 2:none:1"),
            ("undo", "1:0:none 2:1:none"), ("redo", "1:none:0 2:none:1"), ("closed", "3"), ("undo", "1:0:none 2:1:none"),
            ("undo", "same"), ("undo", "4:0:none"), ("undo", "1:none:0 2:none:1 3:none:1 4:none:2"), ("undo", "same"),
            ("undo", "4:2:1"), ("show", NET), ("closed", "-"), ("redo", "4:1:2"),
        )

    def test_posts(self):
        self.say(
            desk_of("net 3 0>1 1>0 1>2 2>1"), ("posts", "1"), ("lane 0 2", "2:1:0"), ("lane 2 0", "same"), ("posts", "-"),
        )
        self.say(desk_of("net 4 0>1 1>2 2>3 3>0"), ("posts", "0 1 2 3"))

    def test_new_keepers(self):
        desk = desk_of("net " + NET, "gate 1", "close 2", "lane 4 0")
        self.assertEqual(desk.say("gate 3"), "ok")
        self.assertEqual(desk.say("closed"), "-")
        self.assertEqual(desk.say("show"), NET + " 4>0")
        self.assertEqual(desk.say("paper").split(" ")[0], "3")
        self.check_refused(desk, "undo", NothingLeft)
        desk.say("close 2")
        desk.say("undo")
        self.assertEqual(desk.say("net 3 0>1"), "ok")
        self.check_refused(desk, "undo", NothingLeft)
        self.check_refused(desk, "redo", NothingLeft)
        # The gate is 0 again.
        self.assertEqual([desk.say(row) for row in ("show", "closed", "paper")], ["3 0>1", "-", "0 1 / 0 1"])

    def test_told_of_the_net_without_what_is_closed(self):
        desk = desk_of("net 6 0>1 0>2 1>3 2>3 3>4 3>5 4>0 5>0", "close 2")
        self.say(
            desk, ("show", "6 0>1 0>2 1>3 2>3 3>4 3>5 4>0 5>0"), ("musts 3", "0 1 3"), ("back 3", "3 0"),
            ("lanes 3", "0>1 1>3"), ("between 3", "- / -"), ("ways 3", "0 1 3 / 0 1 3"), ("cut 1", "1 3 4 5"),
            ("apart 0 3", "1 1"), ("apart 0 2", "0 0"), ("apart 2 3", "0 0"), ("many", "2"),
            ("look 0 1 3 4 5 / 0 1 3 5 4", "holds"), ("number 0 1 3 5 4 / 0 1 3 4 5", "1"),
            ("numbered 0", "0 1 3 4 5 / 0 1 3 5 4"),
        )
        for row in ("musts 2", "back 2", "ways 2", "cut 2", "lanes 2", "between 2"):
            self.check_refused(desk, row, NotReached)
        # The closed place is still one of the net, and no way leads to it.
        self.check_refused(desk, "posts", NoRound)
        desk.say("open 2")
        self.say(desk, ("posts", "0 3"), ("apart 0 3", "2 2"), ("musts 3", "0 3"))


class Refused(Checked):
    def test_by_each_class(self):
        desk = desk_of("net 4 0>1 1>2", "close 2")
        for row in ("lane 0 1", "lane 3 3", "lane 0 4", "lane 999999 0", "lane 0 999999", "drop 1 0", "drop 5 6",
                    "drop 999999 999999", "lane 100000 24"):
            self.check_refused(desk, row, NoLane)
        for row in ("close 0", "close 2", "close 4", "close 999999", "open 1", "open 0", "open 4", "open 999999"):
            self.check_refused(desk, row, NoPlace)
        for row in ("musts 3", "musts 2", "back 1", "back 3", "ways 2", "ways 3", "cut 3", "lanes 3", "between 2"):
            self.check_refused(desk, row, NotReached)
        for row in ("numbered 1", "numbered 999999"):
            self.check_refused(desk, row, NoSuch)
        for row in ("number 0 / 0", "number - / -", "number 0 1 2 / 0 1 2", "number 999999 / 1"):
            self.check_refused(desk, row, NoPaper)
        self.check_refused(desk, "posts", NoRound)
        self.check_refused(desk, "redo", NothingLeft)
        desk.say("undo")
        self.check_refused(desk, "undo", NothingLeft)
        # What was refused is no deed, so what was taken back can be done again.
        self.check_refused(desk, "lane 0 1", NoLane)
        self.assertEqual(desk.say("redo"), "2:1:none")

    def test_too_many(self):
        desk = desk_of("net " + net_text(STAR))
        for row in ("many", "numbered 0", "numbered 999999", "number " + paper(paper_of(STAR, 0))):
            self.check_refused(desk, row, TooMany)
        self.check_refused(desk, "number 0 / 0", NoPaper)
        desk.say("close 1")
        desk.say("close 4")
        self.assertEqual(desk.say("many"), "120")

    NO_ROWS = (
        "", " ", "\n", "-", "0", "Show", "SHOW", "show ", " show", "show\n", "\nshow", "show show", "show 0", "show -",
        "net", "net ", "net  3", " net 3", "net 3 ", "net 0", "net 25", "net x", "net -", "net 3 0>0", "net 3 1>2 0>1",
        "net 3 0>1 0>1", "net 3 0>3", "net 03", "net 3\n", "net 3 0>1\n", "net\n3", "net3", "nets 3", "net 1000000",
        "net " + net_text((24, tuple(all_pairs(24)[:121]))), "gate", "gate ", "gate 4", "gate -1", "gate 00", "gate 01",
        "gate 0 0", "gate  0", "gate x", "gate 1000000", "gate 999999", "gate +1", "gate 1\n", "gate 0>1", "lane",
        "lane 0", "lane 0 ", "lane 0 1 2", "lane  0 1", "lane 0  1", "lane 0 1 ", "lane 0>1", "lane 0 -1", "lane 00 1",
        "lane 0 01", "lane 1000000 0", "lane 0 1000000", "lane a b", "lane 0,1", "lane 0\n1", "drop", "drop 0",
        "drop 0 1 2", "drop 0 01", "drop 0 x", "drop 0>1", "drop 1000000 1", "close", "close ", "close 1 2", "close 01",
        "close -1", "close x", "close 1000000", "close -", "open", "open 1 1", "open 01", "open 1000000", "open  1",
        "undo 1", "undo ", " undo", "redo 1", "redo ", "closed 1", "closed ", "paper 0", "paper ", "paper 0 / 0",
        "look", "look ", "look 0", "look 0 /", "look / 0", "look 0/0", "look 0 / 0 / 0", "look 0  / 0", "look 0 / 0 ",
        "look  0 / 0", "look 0 / 01", "look 0 / 1000000", "look 0 / -1", "look -", "look paper", "musts", "musts ",
        "musts 4", "musts 24", "musts 999999", "musts 1 2", "musts 01", "musts -1", "musts x", "musts -", "must 1",
        "back", "back 4", "back 1 1", "back 01", "ways", "ways 4", "ways 0 1", "ways 00", "cut", "cut 4", "cut 1 2",
        "lanes", "lanes 4", "lanes 0 1", "lanes 03", "between", "between 4", "between 0 1", "between 1000000", "many 1",
        "many ", "numbered", "numbered ", "numbered -1", "numbered 00", "numbered 1000000", "numbered 0 1", "numbered x",
        "number", "number 0", "number ", "number 0 /", "number 0 / 0 ", "number 0 / 1000000", "apart", "apart 0",
        "apart 0 1 2", "apart 0 0", "apart 3 3", "apart 0 4", "apart 4 0", "apart 4 4", "apart 01 2", "apart 0 x",
        "apart 0>1", "posts 1", "posts ", "post", "holds", "same", "none", "ok", "help", "reopen 1", "again", "put 0 1",
        "made", "holders", "x" * 2000, " " * 2000, "show\nshow", "musts\n1", "musts\t1", "musts 1\r", "musts \u0661",
    )

    THINGS = (
        None, True, False, 0, 1, -1, 10 ** 60 - 1, (), [], ("show",), ["show"], ("net", "3"), [[[["show"]]]], (None,),
        ("lane", 0, 1), ["undo"], [1, 2], ((((((),),),),),), ["s", "h", "o", "w"],
    )

    def test_no_rows(self):
        desk = desk_of("net 4 0>1 1>2 2>3", "drop 2 3", "close 1", "undo")
        for row in self.NO_ROWS:
            with self.subTest(row=row):
                self.check_refused(desk, row, NoRow)
        self.assertEqual(desk.say("redo"), "1:0:none 2:1:none")

    def test_no_texts(self):
        desk = desk_of("net 4 0>1 1>2 2>3", "close 1")
        for thing in self.THINGS:
            with self.subTest(thing=thing):
                written_ahead = repr(thing)
                self.check_refused(desk, thing, NoRow)
                self.assertEqual(repr(thing), written_ahead)

    def test_places_of_the_net_as_it_is_then(self):
        desk = Desk()
        for many in (1, 5, 24, 2):
            desk.say(f"net {many}")
            for word in ("gate", "musts", "back", "ways", "cut", "lanes", "between"):
                self.check_refused(desk, f"{word} {many}", NoRow)
                if word != "gate" and many > 1:
                    self.check_refused(desk, f"{word} {many - 1}", NotReached)
            self.check_refused(desk, f"apart 0 {many}", NoRow)
            self.check_refused(desk, f"apart {many} 0", NoRow)
            self.check_refused(desk, f"lane 0 {many}", NoLane)
            self.check_refused(desk, f"drop 0 {many}", NoLane)
            self.check_refused(desk, f"close {many}", NoPlace)
            self.check_refused(desk, f"open {many}", NoPlace)


class Followed(Checked):
    """Desks compared with keepers that are told the same deeds."""

    ASKED = ("musts", "back", "ways", "cut", "lanes", "between", "apart", "look", "number", "numbered", "many", "posts",
             "paper", "show", "closed")
    DEEDS = ("lane", "lane", "lane", "drop", "drop", "close", "open", "open", "undo", "undo", "redo")

    def given(self, chance, keeper, word):
        many, there = keeper.net()
        if word in ("undo", "redo", "many", "posts", "paper", "show", "closed"):
            return ()
        if word in ("lane", "apart"):
            return tuple(chance.sample(range(many), 2)) if many > 1 else (0, 1)
        if word == "drop":
            return chance.choice(there) if there and chance.random() < 0.9 else (0, 999999)
        if word == "open":
            return (chance.choice(keeper.closed() or (0,)),)
        if word in ("look", "number"):
            low, high = keeper.paper()
            spoiled = chance.choice([(low, high), (high, low), (low, low), (low[:-1], high), ((), low)])
            return (spoiled,)
        if word == "numbered":
            return (chance.choice([0, 1, 2, 5, 30]),)
        return (chance.randrange(many),)

    def follow(self, seed, net, gate, rows):
        chance = random.Random(seed)
        desk, keeper = desk_of("net " + net_text(net), f"gate {gate}"), Keeper(net, gate)
        told = set()
        for turn in range(rows - 2):
            word = chance.choice(self.DEEDS if turn % 2 else self.ASKED)
            given = self.given(chance, keeper, word)
            if word == "apart" and keeper.net()[0] == 1:
                continue
            answer = self.check_row(desk, keeper, word, *given)
            told.add((word, answer if isinstance(answer, type) else None))
        return told

    def test_deeds_and_questions(self):
        chance = random.Random(171)
        told = set()
        for turn, net in enumerate(list(shaped_nets(172, 3, 1, 10)) + list(round_nets(173, 12, 2, 8))):
            told |= self.follow(turn, net, chance.randrange(net[0]), 60)
        # Each row was answered, and each that can be was refused by each of its classes.
        self.assertEqual({word for word, refusal in told if refusal is None}, set(self.ASKED) | set(self.DEEDS))
        for word, refusal in (("lane", NoLane), ("drop", NoLane), ("close", NoPlace), ("open", NoPlace),
                              ("undo", NothingLeft), ("redo", NothingLeft), ("numbered", NoSuch), ("number", NoPaper),
                              ("many", TooMany), ("numbered", TooMany), ("posts", NoRound)):
            self.assertIn((word, refusal), told)
        for word in ("musts", "back", "ways", "cut", "lanes", "between"):
            self.assertIn((word, NotReached), told)

    def test_four_hundred_rows(self):
        for turn, net in enumerate(some_nets(174, 2, 20, 24)):
            self.follow(turn, net, turn, 400)

    def test_every_question_of_some_nets(self):
        for net in list(shaped_nets(175, 2, 2, 24)) + list(round_nets(176, 4, 2, 24)):
            desk, keeper = desk_of("net " + net_text(net), "gate 1"), Keeper(net, 1)
            for word in ("many", "posts", "paper", "show", "closed"):
                self.check_row(desk, keeper, word)
            for place in range(net[0]):
                for word in ("musts", "back", "ways", "cut", "lanes", "between"):
                    self.check_row(desk, keeper, word, place)
                if place:
                    self.check_row(desk, keeper, "apart", 0, place)


class Told(Checked):
    def test_two_desks(self):
        one, other = Desk(), desk_of("net " + NET, "close 2", "undo")
        ahead = seen(other)
        one.say("net 2 0>1")
        one.say("close 1")
        self.assertEqual(seen(other), ahead)
        self.assertEqual(other.say("redo"), "2:1:none 4:1:3")
        self.assertEqual(seen(one)[:3], ["2 0>1", "1", "0 / 0"])
        self.assertEqual(seen(Desk())[:3], ["1", "-", "0 / 0"])

    def test_the_same_again(self):
        rows = ("net " + NET, "paper", "drop 3 4", "paper", "close 2", "undo", "redo", "many", "show", "musts 4")

        def run():
            desk = Desk()
            told = []
            for row in rows:
                try:
                    told.append(desk.say(row))
                except WayError as refusal:
                    told.append(type(refusal))
            return told + seen(desk) + seen(desk)

        self.assertEqual(run(), run())


if __name__ == "__main__":
    unittest.main()
