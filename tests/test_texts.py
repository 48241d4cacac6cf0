import random
import unittest

from plainly import all_pairs, every_net, is_told, net_of, shaped_nets
from waymusts.errors import NoText
from waymusts.making import paper_of
from waymusts.nets import is_net
from waymusts.texts import read_net, read_paper, read_places, show_net, show_paper, show_places

FULL = net_of(24, all_pairs(24)[-120:])
SIGNS = [chr(code) for code in range(32, 127) if chr(code) != "%"] + ["\n"]


def plain_number(text):
    """The number that a text writes, or None."""
    figures = set(text) <= set("0123456789") and 1 <= len(text) <= 6
    return int(text) if figures and str(int(text)) == text else None


def plain_places(text):
    """The places that a text writes, or None."""
    numbers = [plain_number(word) for word in text.split(" ")]
    return () if text == "-" else None if None in numbers else tuple(numbers)


def plain_paper(text):
    orders = [plain_places(part) for part in text.split(" / ")]
    return tuple(orders) if len(orders) == 2 and None not in orders else None


def plain_net(text):
    first, *rest = text.split(" ")
    lanes = [tuple(plain_number(end) for end in word.split(">")) for word in rest]
    net = (plain_number(first), tuple(lanes))
    return net if is_net(net) else None


class Checked(unittest.TestCase):
    def check(self, read, text, right):
        if right is None:
            with self.assertRaises(NoText, msg=repr(text)) as caught:
                read(text)
            self.assertIs(type(caught.exception), NoText)
        else:
            told = read(text)
            self.assertTrue(is_told(told))
            self.assertEqual(told, right, repr(text))

    def check_none(self, read, texts):
        for text in texts:
            with self.subTest(text=text):
                self.check(read, text, None)

    def check_spoiled(self, chance, read, plainly, text, how_often):
        """The text with signs left out, put in or exchanged, now and then still what is written so."""
        for turn in range(how_often):
            spot = chance.randrange(len(text) + 1)
            sign = chance.choice([chance.choice(SIGNS), chance.choice(" 0123456789>-/\n")])
            rest = text[spot + chance.randrange(2):]
            spoiled = text[:spot] + chance.choice([sign, ""]) + rest
            self.check(read, spoiled, plainly(spoiled))


class Nets(Checked):
    def test_by_hand(self):
        for net, text in (
            ((3, ((0, 1), (1, 2))), "3 0>1 1>2"), ((1, ()), "1"), ((24, ()), "24"), ((2, ((0, 1), (1, 0))), "2 0>1 1>0"),
            ((24, ((0, 23), (10, 9), (23, 0))), "24 0>23 10>9 23>0"),
        ):
            self.assertEqual(show_net(net), text)
            self.assertEqual(read_net(text), net)

    def test_there_and_back(self):
        nets = [net for many in (1, 2, 3) for net in every_net(many)]
        for net in nets + list(shaped_nets(151, 25, 1, 24)) + [FULL]:
            text = show_net(net)
            self.assertIs(type(text), str)
            self.check(read_net, text, net)
            right = " ".join([str(net[0])] + [str(one) + ">" + str(other) for one, other in net[1]])
            self.assertEqual(text, right)

    def test_other_texts(self):
        self.check_none(read_net, (
            "", " ", "-", "\n", "0", "25", "100", "-1", "+3", "03", "00", "3 ", " 3", "3\n", "\n3", "3.0", "3_", "1_0", "x",
            "3 0>1 ", "3  0>1", " 3 0>1", "3 0>1\n", "3\n0>1", "3 0>1  1>2", "3 0>1\n1>2", "3 0>11>2", "3 0>1,1>2",
            "3 0 >1", "3 0> 1", "3 0 > 1", "3 0>", "3 >1", "3 >", "3 0>1>2", "3 0>>1", "3 0<1", "3 0-1", "3 01", "3 0",
            "3 1>2 0>1", "3 0>1 0>1", "3 0>2 0>1", "3 0>0", "3 2>2", "3 0>3", "3 3>0", "3 0>24", "24 0>24", "1 0>0",
            "1 0>1", "3 00>1", "3 0>01", "3 -1>0", "3 0>-1", "3 +0>1", "3 0>+1", "0000003", "1000000", "3 0>1000000",
            "3 0>0000001", "0 0>1", "25 0>1", "3 0>1 -", "3 -", "3 / 3", "3>1", "0>1", "3 (0, 1)", "three", "3 0>1 3",
            "3\t0>1", "3 0>1\r", "\u0663", "3 0>\u0661", "3 0>\u00b2", "\u00b3", "3\u00a00>1", "(3, ((0, 1),))",
        ))

    def test_as_many_lanes_as_there_may_be(self):
        pairs = all_pairs(24)
        self.assertEqual(read_net(show_net((24, tuple(pairs[:120])))), (24, tuple(pairs[:120])))
        self.check_none(read_net, [show_net((24, tuple(pairs[:121]))), show_net((24, tuple(pairs[:200])))])
        self.check_none(read_net, ["9" * 2000, "1 " * 1000, "24" + " 0>1" * 400, ">" * 2000, " " * 2000])

    def test_spoiled(self):
        chance = random.Random(152)
        for net in list(shaped_nets(153, 8, 1, 24)) + [(1, ()), (2, ()), (3, ((0, 1), (1, 2)))] * 4:
            self.check_spoiled(chance, read_net, plain_net, show_net(net), 60)

    def test_each_sign_anywhere(self):
        text = "3 0>1 1>2"
        for spot in range(len(text) + 1):
            for sign in SIGNS:
                for end in (spot, spot + 1):
                    spoiled = text[:spot] + sign + text[end:]
                    self.check(read_net, spoiled, plain_net(spoiled))


class Places(Checked):
    def test_by_hand(self):
        for places, text in (
            ((), "-"), ((0,), "0"), ((3, 0, 23), "3 0 23"), ((1, 1), "1 1"), ((999999, 100000, 0), "999999 100000 0"),
        ):
            self.assertEqual(show_places(places), text)
            self.assertEqual(read_places(text), places)

    def test_there_and_back(self):
        chance = random.Random(154)
        for many in list(range(30)) + [100, 250, 400]:
            places = tuple(chance.choices(range(24), k=many))
            self.assertEqual(show_places(places), " ".join(map(str, places)) or "-")
            self.check(read_places, show_places(places), places)
            numbers = tuple(chance.choices([0, 9, 10, 99, 100, 12345, 99999, 100000, 999999], k=min(many, 250)))
            self.check(read_places, show_places(numbers), numbers)

    def test_other_texts(self):
        self.check_none(read_places, (
            "", " ", "--", "- ", " -", "-\n", "- -", "- 1", "1 -", "-1", "+1", "01", "00", "1 02", "1 00", " 1", "1 ",
            "1  2", "1\n", "\n", "\n1", "1\n2", "1,2", "1, 2", "1/2", "1 / 2", "1>2", "1000000", "0000001", "1 1000000",
            "12345678901234567890", "a", "1a", "a1", "0x1", "1_0", "1e3", "1.0", "none", "()", "(1, 2)", "1\t2", "1\r",
            "\u0661", "1 \u0662", "\u00b2", "1\u00a02", "1\u20032", "1" * 2000, " " * 2000,
        ))

    def test_spoiled(self):
        chance = random.Random(155)
        for turn in range(150):
            text = show_places(tuple(chance.choices([0, 1, 7, 23, 4321, 100000, 999999], k=chance.randrange(6))))
            self.check_spoiled(chance, read_places, plain_places, text, 20)


class Papers(Checked):
    def test_by_hand(self):
        for paper, text in (
            (((0,), (0,)), "0 / 0"), (((0, 1, 2), (0, 2, 1)), "0 1 2 / 0 2 1"), (((5, 3), (7,)), "5 3 / 7"),
            (((), ()), "- / -"), (((), (1,)), "- / 1"), (((1,), ()), "1 / -"), (((999999,), (0, 0)), "999999 / 0 0"),
        ):
            self.assertEqual(show_paper(paper), text)
            self.assertEqual(read_paper(text), paper)

    def test_there_and_back(self):
        chance = random.Random(156)
        for net in shaped_nets(157, 20, 1, 24):
            paper = paper_of(net, chance.randrange(net[0]))
            low, high = (" ".join(map(str, order)) for order in paper)
            self.assertEqual(show_paper(paper), low + " / " + high)
            self.check(read_paper, show_paper(paper), paper)

    def test_other_texts(self):
        self.check_none(read_paper, (
            "", " ", "/", " / ", "-", "0", "0 1", "0 /", "/ 0", "0 / ", " / 0", "0/0", "0 /0", "0/ 0", "0  / 0",
            "0 /  0", " 0 / 0", "0 / 0 ", "0 / 0\n", "0\n/ 0", "0 / 0 / 0", "0 / / 0", "0 // 0", "0 / - / 0", "- /", "/ -",
            "0 / 01", "00 / 0", "0 / -1", "0 / +1", "1000000 / 0", "0 / 1000000", "0 | 0", "0 \\ 0", "- - / -", "-/-",
            "0 - / 0", "0 1  2 / 0 1 2", "0, 1 / 0, 1", "0 1 / 0 1 /", "0 / 0\n0 / 0", "0\t/ 0", "0\u00a0/ 0", "0 / \u0660",
        ))

    def test_spoiled(self):
        chance = random.Random(158)
        for net in shaped_nets(159, 15, 1, 8):
            self.check_spoiled(chance, read_paper, plain_paper, show_paper(paper_of(net, 0)), 40)
        self.check_spoiled(chance, read_paper, plain_paper, "- / -", 300)


class Told(Checked):
    def test_the_same_again_with_others_between(self):
        asked = []
        for net in shaped_nets(160, 6, 1, 24):
            paper = paper_of(net, 0)
            asked += [(show_net, net), (show_paper, paper), (show_places, paper[0])]
            asked += [(read_net, show_net(net)), (read_paper, show_paper(paper)), (read_places, show_places(paper[0]))]
        first = [call(given) for call, given in asked]
        self.assertTrue(all(is_told(told) for told in first))
        self.assertEqual([call(given) for call, given in asked[::-1]], first[::-1])


if __name__ == "__main__":
    unittest.main()
