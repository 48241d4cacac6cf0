"""Ways through a net, and the places that they reach."""

from waymusts.nets import is_place, turned


def is_way(net, thing):
    """Whether a thing is a way of the net from some place to some place."""
    many, lanes = net
    if not isinstance(thing, tuple) or thing == ():
        return False
    if not all([is_place(many, place) for place in thing]):
        return False
    if len(set(thing)) != len(thing):
        return False
    return all([step in lanes for step in zip(thing, thing[1:])])


def next_places(net):
    """For each place, those to which a lane leads from it, rising."""
    many, lanes = net
    nexts = [[] for place in range(many)]
    for one, other in lanes:
        nexts[one].append(other)
    return nexts


def lanes_away(net, start, closed):
    """For each place how many lanes the shortest way from the start goes by, or None without a way.

    Only ways count that have none of the closed places.
    """
    many = net[0]
    away = [None] * many
    if start in closed:
        return away
    nexts = next_places(net)
    shut = [place in closed for place in range(many)]
    away[start] = 0
    layer = [start]
    while layer:
        further = []
        for place in layer:
            for head in nexts[place]:
                if away[head] is None and not shut[head]:
                    away[head] = away[place] + 1
                    further.append(head)
        layer = further
    return away


def least_way(net, one, other, closed):
    """Of the ways without closed places the least one of fewest places, or None."""
    # Told from the far end, the distances show at each place which steps do not lose any.
    left = lanes_away(turned(net), other, closed)
    if left[one] is None:
        return None
    nexts = next_places(net)
    way = [one]
    for more in reversed(range(left[one])):
        way.append(min([head for head in nexts[way[-1]] if left[head] == more]))
    return tuple(way)


def reached_past(net, gate, closed):
    """The places to which a way leads from the gate that has none of the closed ones, rising."""
    away = lanes_away(net, gate, closed)
    return tuple([place for place, steps in enumerate(away) if steps is not None])


def reached(net, gate):
    """The places to which a way leads from the gate, rising."""
    return reached_past(net, gate, ())
