"""Desk: rows, told as texts, and their answers."""

from waymusts.apart import lanes_apart, ways_apart
from waymusts.counted import number_of, paper_numbered, papers_many
from waymusts.errors import NoRow, NoText
from waymusts.keeper import Keeper
from waymusts.musts import cut_off, must_lanes, musts
from waymusts.papers import lie_of, two_ways
from waymusts.posts import musts_back, posts
from waymusts.stretches import stretches
from waymusts.texts import (
    read_net, read_number, read_paper, show_all, show_lane, show_net, show_paper, show_places,
)


def show_part(part):
    """A part of the news as it is written."""
    return "none" if part is None else str(part)


def show_news(news):
    """The news as they are written."""
    if news == ():
        return "same"
    return " ".join([":".join([show_part(part) for part in one]) for one in news])


def put_lane(keeper, given):
    """The news of a lane put in."""
    one, other = given
    return show_news(keeper.put(one, other))


def drop_lane(keeper, given):
    """The news of a lane dropped."""
    one, other = given
    return show_news(keeper.drop(one, other))


def close_place(keeper, given):
    """The news of a place closed."""
    return show_news(keeper.close(given[0]))


def open_place(keeper, given):
    """The news of a place opened."""
    return show_news(keeper.reopen(given[0]))


def take_back(keeper, given):
    """The news of a deed taken back."""
    return show_news(keeper.back())


def do_again(keeper, given):
    """The news of a deed done again."""
    return show_news(keeper.again())


def tell_closed(keeper, given):
    """The closed places."""
    return show_places(keeper.closed())


def tell_net(keeper, given):
    """The net with all lanes that are there."""
    return show_net(keeper.net())


def tell_paper(keeper, given):
    """The keeper's paper."""
    return show_paper(keeper.paper())


def look_over(keeper, given):
    """The first lie of a paper, or that it holds."""
    lie = lie_of(keeper.net_left(), keeper.gate(), given[0])
    return "holds" if lie is None else " ".join([str(part) for part in lie])


def tell_musts(keeper, given):
    """The musts of a place."""
    return show_places(musts(keeper.net_left(), keeper.gate(), given[0]))


def tell_musts_back(keeper, given):
    """The musts back of a place."""
    return show_places(musts_back(keeper.net_left(), keeper.gate(), given[0]))


def tell_ways(keeper, given):
    """The low way and the high way to a place, by the keeper's paper."""
    return show_paper(two_ways(keeper.net_left(), keeper.gate(), keeper.paper(), given[0]))


def tell_cut_off(keeper, given):
    """The places cut off where a place is closed."""
    return show_places(cut_off(keeper.net_left(), keeper.gate(), given[0]))


def tell_must_lanes(keeper, given):
    """The must lanes of a place."""
    return show_all([show_lane(lane) for lane in must_lanes(keeper.net_left(), keeper.gate(), given[0])])


def tell_stretches(keeper, given):
    """The stretches between the musts of a place."""
    told = stretches(keeper.net_left(), keeper.gate(), given[0])
    return " / ".join([show_places(stretch) for stretch in told]) if told else "none"


def tell_count(keeper, given):
    """How many papers hold."""
    return str(papers_many(keeper.net_left(), keeper.gate()))


def tell_numbered(keeper, given):
    """The paper of a number."""
    return show_paper(paper_numbered(keeper.net_left(), keeper.gate(), given[0]))


def tell_number(keeper, given):
    """The number of a paper."""
    return str(number_of(keeper.net_left(), keeper.gate(), given[0]))


def tell_apart(keeper, given):
    """How many ways apart lead from one place to another, and how many apart by lanes."""
    one, other = given
    if one == other:
        raise NoRow("the two places are one")
    net = keeper.net_left()
    return f"{len(ways_apart(net, one, other))} {len(lanes_apart(net, one, other))}"


def tell_posts(keeper, given):
    """The posts."""
    return show_places(posts(keeper.net_left()))


KINDS = {
    "net": ("net",),
    "gate": ("place",),
    "lane": ("number", "number"),
    "drop": ("number", "number"),
    "close": ("number",),
    "open": ("number",),
    "undo": (),
    "redo": (),
    "closed": (),
    "show": (),
    "paper": (),
    "look": ("paper",),
    "musts": ("place",),
    "back": ("place",),
    "ways": ("place",),
    "cut": ("place",),
    "lanes": ("place",),
    "between": ("place",),
    "many": (),
    "numbered": ("number",),
    "number": ("paper",),
    "apart": ("place", "place"),
    "posts": (),
}

ANSWERS = {
    "lane": put_lane,
    "drop": drop_lane,
    "close": close_place,
    "open": open_place,
    "undo": take_back,
    "redo": do_again,
    "closed": tell_closed,
    "show": tell_net,
    "paper": tell_paper,
    "look": look_over,
    "musts": tell_musts,
    "back": tell_musts_back,
    "ways": tell_ways,
    "cut": tell_cut_off,
    "lanes": tell_must_lanes,
    "between": tell_stretches,
    "many": tell_count,
    "numbered": tell_numbered,
    "number": tell_number,
    "apart": tell_apart,
    "posts": tell_posts,
}


def read_given(kind, text, many):
    """What a text gives, of a kind, at a desk whose net has so many places."""
    if kind == "net":
        return read_net(text)
    if kind == "paper":
        return read_paper(text)
    number = read_number(text)
    if kind == "place" and number >= many:
        raise NoText("no such place")
    return number


def read_row(row, many):
    """The word of a row and the tuple of what it gives, at a desk whose net has so many places."""
    words = row.split(" ") if isinstance(row, str) else [""]
    word = words[0]
    if word not in KINDS:
        raise NoRow("the desk does not know the row's word")
    kinds = KINDS[word]
    # Nets and papers are written with blanks themselves, so all that is left of the row is theirs.
    texts = [" ".join(words[1:])] if kinds in (("net",), ("paper",)) else words[1:]
    if len(texts) != len(kinds):
        raise NoRow(f"more or fewer words than behind {word}")
    try:
        given = tuple([read_given(kind, text, many) for kind, text in zip(kinds, texts)])
    except NoText:
        raise NoRow(f"not what is told behind {word}") from None
    return (word, given)


class Desk:
    """Has a keeper, and answers rows by it."""

    def __init__(self):
        self.keeper = Keeper((1, ()), 0)

    def say(self, row):
        """The answer to a row."""
        word, given = read_row(row, self.keeper.net()[0])
        if word == "net":
            self.keeper = Keeper(given[0], 0)
            return "ok"
        if word == "gate":
            self.keeper = Keeper(self.keeper.net(), given[0])
            return "ok"
        answer = ANSWERS[word]
        return answer(self.keeper, given)
