"""Posts: places that part others from one another."""

from waymusts.errors import NoRound
from waymusts.musts import holders, musts
from waymusts.nets import turned
from waymusts.ways import reached, reached_past


def musts_back(net, gate, place):
    """The places that each way from a place to the gate has, in the ways' order."""
    return musts(turned(net), gate, place)[::-1]


def parted_from(net, place, one):
    """The places to which ways lead from one place, but none that leaves out another place."""
    still = reached_past(net, one, (place,))
    return [other for other in reached(net, one) if other not in still and other != place]


def parted_by(net, place):
    """The pairs of places that a place parts from one another, rising."""
    ones = [one for one in range(net[0]) if one != place]
    return tuple([(one, other) for one in ones for other in parted_from(net, place, one)])


def leads_round(net):
    """Whether from each place each other one is reached."""
    # Where all lead to one place, and it leads to all, each leads to each by it.
    return all([len(reached(side, 0)) == net[0] for side in (net, turned(net))])


def posts(net):
    """The places of a net that leads round which part some pair of others, rising."""
    if not leads_round(net):
        raise NoRound("the net does not lead round")
    # With 0 as the gate the holders tell of each other place whether it is a post, but not of 0 itself.
    holding = [holder for side in (net, turned(net)) for holder in holders(side, 0)]
    found = [place for place in range(1, net[0]) if place in holding]
    if parted_by(net, 0) != ():
        found.insert(0, 0)
    return tuple(found)
