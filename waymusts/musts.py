"""Musts: the places, and the lanes, that no way from a gate leaves out."""

from waymusts.errors import NotReached
from waymusts.nets import without_lane
from waymusts.ways import least_way, reached, reached_past


def cut_off(net, gate, place):
    """The places that are reached no more where a reached place is closed, rising."""
    all_reached = reached(net, gate)
    if place not in all_reached:
        raise NotReached(f"no way leads from {gate} to {place}")
    still = reached_past(net, gate, (place,))
    return tuple([other for other in all_reached if other not in still])


def holders(net, gate):
    """For each place its holder: the gate for the gate, None where it isn't reached."""
    cuts = {place: cut_off(net, gate, place) for place in reached(net, gate)}
    held = [None] * net[0]
    # Of two musts of a place the later one cuts off fewer places, so the last one to be set is the holder.
    for place in sorted(list(cuts), key=lambda must: -len(cuts[must])):
        for below in cuts[place]:
            if below != place:
                held[below] = place
    held[gate] = gate
    return tuple(held)


def musts_held(held, place):
    """The musts of a place, from the gate to it, by the holders of all places."""
    if held[place] is None:
        raise NotReached(f"no way leads to {place}")
    line = [place]
    while held[line[-1]] != line[-1]:
        line.append(held[line[-1]])
    return tuple(line[::-1])


def musts(net, gate, place):
    """The places that each way from the gate to a place has, in the ways' order."""
    return musts_held(holders(net, gate), place)


def shared_must(net, gate, places):
    """The last place that is a must of each of some places."""
    held = holders(net, gate)
    lines = [musts_held(held, place) for place in places]
    shared = [must for must in lines[0] if all([must in line for line in lines])]
    return shared[-1]


def must_lanes(net, gate, place):
    """The lanes by which each way from the gate to a place goes, in the ways' order."""
    way = least_way(net, gate, place, ())
    if way is None:
        raise NotReached(f"no way leads from {gate} to {place}")
    # Whatever all ways have, this one has, and in the order of all.
    return tuple([lane for lane in zip(way, way[1:]) if place not in reached(without_lane(net, lane), gate)])
