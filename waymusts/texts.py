"""Texts: nets, places and papers, written and read."""

from waymusts.errors import NoText
from waymusts.nets import is_net

FIGURES = "0123456789"
MOST_FIGURES = 6
NOTHING = "-"


def show_lane(lane):
    """A lane as it is written."""
    one, other = lane
    return f"{one}>{other}"


def show_net(net):
    """A net as it is written."""
    many, lanes = net
    return " ".join([str(many)] + [show_lane(lane) for lane in lanes])


def show_all(texts):
    """Some texts with a blank between, or a sign for none."""
    return " ".join(texts) if texts else NOTHING


def show_places(places):
    """A tuple of places as it is written."""
    return show_all([str(place) for place in places])


def show_paper(paper):
    """A paper as it is written."""
    low, high = paper
    return f"{show_places(low)} / {show_places(high)}"


def read_number(text):
    """The number that a text writes."""
    if not 1 <= len(text) <= MOST_FIGURES or not all([sign in FIGURES for sign in text]):
        raise NoText("a number has one to six figures")
    if text[0] == "0" and text != "0":
        raise NoText("a number has no 0 ahead")
    return int(text)


def read_lane(text):
    """The pair of numbers that a text writes as a lane."""
    ends = text.split(">")
    if len(ends) != 2:
        raise NoText("a lane has two ends")
    return (read_number(ends[0]), read_number(ends[1]))


def read_net(text):
    """The net that a text writes."""
    words = text.split(" ")
    net = (read_number(words[0]), tuple([read_lane(word) for word in words[1:]]))
    if not is_net(net):
        raise NoText("what is written is no net")
    return net


def read_places(text):
    """The tuple of places that a text writes."""
    if text == NOTHING:
        return ()
    return tuple([read_number(word) for word in text.split(" ")])


def read_paper(text):
    """The paper that a text writes."""
    orders = text.split(" / ")
    if len(orders) != 2:
        raise NoText("a paper has two orders")
    return (read_places(orders[0]), read_places(orders[1]))
