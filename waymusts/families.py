"""Families: the places that one place holds, and how their orders make a paper."""

from waymusts.errors import NotReached
from waymusts.musts import holders


def child_over(held, place, below):
    """The child of a place that another one, somewhere below the place, is or is below."""
    child = below
    while held[child] != place:
        child = held[child]
    return child


def rising_arcs(pairs):
    """Pairs of children as arcs: rising, each once, none from a child to itself."""
    return tuple([(one, other) for one, other in sorted(set(pairs)) if one != other])


def family_held(net, held, place):
    """The family of a place, by the holders of all places."""
    if held[place] is None:
        raise NotReached(f"no way leads to {place}")
    lanes = net[1]
    children = tuple([child for child, holder in enumerate(held) if holder == place and child != place])
    led = tuple([child for child in children if (place, child) in lanes])
    # A reached place with a lane to a child is the holder or below it, else a way would leave the holder out.
    inner = [(one, other) for one, other in lanes if other in children and one != place and held[one] is not None]
    return (children, led, rising_arcs([(child_over(held, place, one), other) for one, other in inner]))


def family(net, gate, place):
    """The children that a reached place holds, those it leads to itself, and the arcs between children."""
    return family_held(net, holders(net, gate), place)


def arcs_from_both_sides(arcs, order, child):
    """Whether to a child an arc leads from one ahead of it in an order, and one from one behind it."""
    spot = order.index(child)
    origins = [one for one, other in arcs if other == child]
    return any([one in order[:spot] for one in origins]) and any([one in order[spot + 1:] for one in origins])


def fits(family, order):
    """Whether arcs lead from both sides, in an order, to each child that isn't led."""
    children, led, arcs = family
    return all([child in led or arcs_from_both_sides(arcs, order, child) for child in children])


def walk_by(orders, gate):
    """All places from the gate on, behind each one all that are below it, children by their orders."""
    walk = []
    waiting = [gate]
    while waiting:
        place = waiting.pop()
        walk.append(place)
        waiting.extend(orders[place][::-1])
    return tuple(walk)


def paper_by(orders, gate):
    """The paper whose low order has each place's children in a given order, the high one in the opposite one."""
    backwards = {place: orders[place][::-1] for place in orders}
    return (walk_by(orders, gate), walk_by(backwards, gate))
