"""Stretches: what lies between two neighbouring musts."""

from waymusts.musts import musts
from waymusts.nets import turned
from waymusts.ways import reached_past


def stretch_between(net, one, other):
    """The places on from one that leave out the other, from which the other is reached without the one, rising."""
    onward = reached_past(net, one, (other,))
    leading = reached_past(turned(net), other, (one,))
    return tuple([place for place in onward if place in leading])


def stretches(net, gate, place):
    """For each two neighbouring musts of a place the places that lie between them."""
    line = musts(net, gate, place)
    return tuple([stretch_between(net, one, other) for one, other in zip(line, line[1:])])
