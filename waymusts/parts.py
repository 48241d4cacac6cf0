"""Parts: what a paper shows of the places below one, which can be exchanged by itself."""

from waymusts.errors import NoPaper
from waymusts.papers import is_order


def only(net, places):
    """The net with only those lanes that lead from one of some places to another one."""
    many, lanes = net
    return (many, tuple([(one, other) for one, other in lanes if one in places and other in places]))


def places_behind(order, place):
    """The places behind a place in an order."""
    return order[order.index(place) + 1:]


def part_of(paper, place):
    """Of either order of a paper a place, and those that it is above, in their order."""
    low, high = paper
    behind = places_behind(high, place)
    below = [other for other in places_behind(low, place) if other in behind]
    return tuple([tuple([other for other in order if other == place or other in below]) for order in paper])


def is_part(paper, part):
    """Whether both orders of a part have just the places of the paper's part of one place, that one first."""
    low = part[0]
    if low == () or low[0] not in paper[0]:
        return False
    places = sorted(part_of(paper, low[0])[0])
    return all([is_order(order, low[0], places) for order in part])


def put_in_stead(order, inner):
    """An order, the spots of some of its places taken by them in another order."""
    spots = [spot for spot, place in enumerate(order) if place in inner]
    changed = list(order)
    for spot, place in zip(spots, inner):
        changed[spot] = place
    return tuple(changed)


def exchanged(paper, part):
    """A paper with another part put in the stead of its own one of the same places."""
    if not is_part(paper, part):
        raise NoPaper("the paper has no part of just these places")
    return tuple([put_in_stead(order, inner) for order, inner in zip(paper, part)])
