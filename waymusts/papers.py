"""Papers: a low and a high order of the reached places, by which the musts are shown."""

from waymusts.errors import NoPaper, NotReached
from waymusts.nets import turned
from waymusts.ways import next_places, reached

ORDER_NAMES = ("low", "high")


def is_order(order, gate, places):
    """Whether an order has just some rising places, each once, the gate first."""
    return order[:1] == (gate,) and sorted(order) == list(places)


def places_ahead(order, place):
    """The places ahead of a place in an order, in the order."""
    # A dict, for an order of no paper that holds may have a place twice.
    return {other: True for other in order[:order.index(place)]}


def places_above(paper, place):
    """The places above a place by a paper, in the low order."""
    low, high = paper
    ahead = places_ahead(high, place)
    return [other for other in places_ahead(low, place) if other in ahead]


def unled_lie(net, gate, paper):
    """The first lie of a place to which no lane leads from one ahead of it, or None."""
    tails = next_places(turned(net))
    for place in sorted(paper[0]):
        for name, order in zip(ORDER_NAMES, paper):
            ahead = places_ahead(order, place)
            if place != gate and not any([tail in ahead for tail in tails[place]]):
                return (name, place)
    return None


def all_above(paper):
    """For each place of a paper the places above it."""
    return {place: places_above(paper, place) for place in paper[0]}


def leaves_out(above, one, other):
    """Whether by a lane from one place to another some place above the other can be left out."""
    return not all([must == one or must in above[one] for must in above[other]])


def lane_lie(net, paper):
    """The first lie of a lane by which a place above its end can be left out, or None."""
    above = all_above(paper)
    for one, other in net[1]:
        # Nothing is above the gate, which stands first, so lanes to it need no look of their own.
        if one in above and leaves_out(above, one, other):
            return ("lane", one, other)
    return None


def lie_of(net, gate, paper):
    """The first lie of a paper for a net and a gate, or None."""
    places = reached(net, gate)
    if not all([is_order(order, gate, places) for order in paper]):
        return ("places",)
    lie = unled_lie(net, gate, paper)
    if lie is None:
        lie = lane_lie(net, paper)
    return lie


def holds(net, gate, paper):
    """Whether a paper has no lie for a net and a gate."""
    return lie_of(net, gate, paper) is None


def musts_by(paper, place):
    """The places above a place by a paper alone, in the low order, and itself."""
    return tuple(places_above(paper, place) + [place])


def way_by(tails, order, place):
    """The way to a place that goes back, each time, to the first one in an order with a lane to it."""
    way = [place]
    while way[-1] != order[0]:
        way.append([other for other in order if other in tails[way[-1]]][0])
    return tuple(way[::-1])


def two_ways(net, gate, paper, place):
    """The low way and the high way to a place, by a paper that holds."""
    if not holds(net, gate, paper):
        raise NoPaper("the paper does not hold")
    low, high = paper
    if place not in low:
        raise NotReached(f"no way leads from {gate} to {place}")
    tails = next_places(turned(net))
    return (way_by(tails, low, place), way_by(tails, high, place))
