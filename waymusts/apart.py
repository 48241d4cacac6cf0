"""Apart: ways that have no place, or no lane, in common, and what blocks them all."""

from waymusts.ways import least_way, reached


def turned_where_used(net, used):
    """The net with its used lanes turned about."""
    many, lanes = net
    return (many, tuple([(other, one) if (one, other) in used else (one, other) for one, other in lanes]))


def used_most(net, one, other):
    """The lanes that as many ways as can be, apart by lanes, use from one place to another."""
    used = {}
    way = least_way(net, one, other, ())
    while way is not None:
        for tail, head in zip(way, way[1:]):
            # A step against a used lane lets two ways exchange their ends, so that neither goes by it.
            if (head, tail) in used:
                del used[(head, tail)]
            else:
                used[(tail, head)] = True
        way = least_way(turned_where_used(net, used), one, other, ())
    return used


def way_taken(heads, one, other):
    """A way by used lanes, which are taken out; a round on it is left out."""
    way = [one]
    while way[-1] != other:
        head = heads[way[-1]].pop()
        if head in way:
            way = way[:way.index(head)]
        way.append(head)
    return tuple(way)


def lanes_apart(net, one, other):
    """As many ways from one place to another as can be, no two with a lane in common."""
    heads = {place: [] for place in range(net[0])}
    for tail, head in sorted(list(used_most(net, one, other))):
        heads[tail].append(head)
    ways = []
    # No way comes back to where it began, so each lane used from there begins one.
    while heads[one]:
        ways.append(way_taken(heads, one, other))
    return tuple(ways)


def lane_blockers(net, one, other):
    """As few lanes as can be without which no way leads from one place to another, rising."""
    # Where no way is left over, the lanes that lead on from what is still reached are all used, once by each way.
    near = reached(turned_where_used(net, used_most(net, one, other)), one)
    return tuple([lane for lane in net[1] if lane[0] in near and lane[1] not in near])


def doubled(net):
    """A net with two numbers for each place: its own, where lanes lead in, and a higher one, where they lead out."""
    many, lanes = net
    # One lane leads through each place, so of ways apart by lanes at most one has it on its way.
    through = [(place, place + many) for place in range(many)]
    return (2 * many, tuple(sorted(through + [(tail + many, head) for tail, head in lanes])))


def ways_apart(net, one, other):
    """As many ways from one place to another as can be, no two with another place in common."""
    many = net[0]
    ways = lanes_apart(doubled(net), one + many, other)
    return tuple([(one,) + tuple([place for place in way if place < many]) for way in ways])


def blockers(net, one, other):
    """As few places as can be without which no way leads from one to another, or None where a lane does."""
    many, lanes = net
    if (one, other) in lanes:
        return None
    blocking = lane_blockers(doubled(net), one + many, other)
    # A place blocks whatever the lane to it does; a lane to the other place itself is blocked by where it begins.
    return tuple(sorted([(tail if head == other else head) % many for tail, head in blocking]))
