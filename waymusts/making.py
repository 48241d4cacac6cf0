"""Making: a paper that holds, family by family."""

from waymusts.families import family_held, paper_by, rising_arcs
from waymusts.musts import holders
from waymusts.ways import reached


def others_reached(family, closed):
    """Whether all children but the closed ones are reached by arcs from led ones without these."""
    children, led, arcs = family
    found = {child: True for child in led if child not in closed}
    waiting = list(found)
    while waiting:
        tail = waiting.pop()
        for one, other in arcs:
            if one == tail and other not in closed and other not in found:
                found[other] = True
                waiting.append(other)
    return len(found) + len(closed) == len(children)


def pair_to_join(family):
    """A led child and one that isn't led, with an arc to it, such that the two together hold no other one."""
    # In the family of a net no child holds another, so the first led one with such arcs has a pair.
    led, arcs = family[1:]
    for one, other in arcs:
        if one in led and other not in led and others_reached(family, (one, other)):
            return (one, other)
    return None


def joined(family, pair):
    """The family without the second of a pair, the first one having its arcs besides."""
    children, led, arcs = family
    kept, gone = pair
    moved = [(kept if one == gone else one, other) for one, other in arcs if other != gone]
    return (tuple([child for child in children if child != gone]), led, rising_arcs(moved))


def put_beside(order, pair, arcs):
    """An order, and the second of a pair put beside the first, so that arcs to it come from both sides."""
    kept, gone = pair
    spot = order.index(kept)
    if any([(one, gone) in arcs for one in order[spot + 1:]]):
        spot += 1
    return order[:spot] + (gone,) + order[spot:]


def order_for(family):
    """An order of the children of a net's family that fits."""
    joins = []
    while family[0] != family[1]:
        pair = pair_to_join(family)
        joins.append((pair, family[2]))
        family = joined(family, pair)
    order = family[0]
    for pair, arcs in reversed(joins):
        order = put_beside(order, pair, arcs)
    return order


def paper_of(net, gate):
    """A paper that holds for a net and a gate."""
    held = holders(net, gate)
    orders = {place: order_for(family_held(net, held, place)) for place in reached(net, gate)}
    return paper_by(orders, gate)
