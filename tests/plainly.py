"""What the tests compare the program with: the document's words, taken as plainly as can be."""

import random
from itertools import combinations, permutations


def net_of(many, lanes):
    return (many, tuple(sorted(lanes)))


def all_pairs(many):
    return [(one, other) for one in range(many) for other in range(many) if one != other]


def every_net(many):
    pairs = all_pairs(many)
    for count in range(len(pairs) + 1):
        for lanes in combinations(pairs, count):
            yield (many, lanes)


def some_nets(seed, how_many, fewest, most):
    """Nets of mixed sizes and thickness, the same ones for the same seed."""
    chance = random.Random(seed)
    for turn in range(how_many):
        many = chance.randint(fewest, most)
        pairs = all_pairs(many)
        # Thin nets are those with musts, so most of them have about as many lanes as places.
        wish = chance.choice([many - 1, many + 2, 3 * many // 2, 2 * many, 4 * many])
        yield net_of(many, chance.sample(pairs, min(wish, len(pairs), 120)))


def ways_of(net, one, other):
    """All ways from a place to a place, by trying every step."""
    found = []

    def go(way):
        if way[-1] == other:
            found.append(way)
            return
        for head in range(net[0]):
            if head not in way and (way[-1], head) in net[1]:
                go(way + (head,))

    go((one,))
    return found


def reach(net, gate, closed=(), dropped=None):
    """The places reached from a gate, by letting them grow until nothing comes."""
    grown = {gate} - set(closed)
    while True:
        more = {b for a, b in net[1] if a in grown and b not in closed and (a, b) != dropped}
        if more <= grown:
            return grown
        grown |= more


def is_told(thing):
    """Whether a thing is made of tuples, whole numbers, texts, truths and None only."""
    if type(thing) is tuple:
        return all(is_told(part) for part in thing)
    return thing is None or type(thing) in (int, str, bool)


def has_truth(thing):
    """Whether a thing is a truth or has one in it."""
    return any(has_truth(part) for part in thing) if type(thing) is tuple else type(thing) is bool


def mixed(chance, many, lanes):
    """A net of these lanes, the places' numbers mixed."""
    names = chance.sample(range(many), many)
    return net_of(many, {(names[one], names[other]) for one, other in lanes if one != other})


def tree_lanes(chance, many):
    """A tree with some lanes besides, many of which leave musts as they are."""
    lanes = {(chance.randrange(max(0, place - 4), place), place) for place in range(1, many)}
    return lanes | set(chance.sample(all_pairs(many), min(chance.randint(0, many), len(all_pairs(many)))))


def row_lanes(chance, many):
    """Places one behind the other, with some lanes further on and back."""
    lanes = {(place, place + 1) for place in range(many - 1)}
    for turn in range(chance.randint(0, many) if many > 1 else 0):
        one = chance.randrange(many)
        lanes.add((one, min(many - 1, one + 2)) if chance.random() < 0.5 else (one, chance.randrange(one + 1)))
    return lanes


def ladder_lanes(chance, many):
    """Places each led by two of those ahead, near ones or any."""
    lanes = {(0, place) for place in range(1, min(many, 3))}
    wide = chance.choice([2, 3, many])
    for place in range(3, many):
        lanes |= {(one, place) for one in chance.sample(range(max(0, place - wide), place), 2)}
    return lanes


def wheel_lanes(chance, many):
    """A rim that leads round both ways, with a few spokes from the gate."""
    rim = list(range(1, many))
    lanes = {lane for one, other in zip(rim, rim[1:] + rim[:1]) for lane in ((one, other), (other, one))}
    return lanes | {(0, place) for place in chance.sample(rim, min(len(rim), chance.randint(1, 4)))}


def ear_lanes(chance, many):
    """A net that leads round: ever again some new places in a row, from one that is there to one that is there."""
    lanes = set()
    here = 1
    while here < many:
        ear = list(range(here, min(many, here + chance.randint(1, 5))))
        row = [chance.randrange(here)] + ear + [chance.randrange(here)]
        lanes |= set(zip(row, row[1:]))
        here += len(ear)
    return lanes


def round_nets(seed, how_many, fewest, most):
    """Nets that lead round, thin ones and ones with some lanes besides, the places' numbers mixed."""
    chance = random.Random(seed)
    for turn in range(how_many):
        many = chance.randint(fewest, most)
        lanes = ear_lanes(chance, many)
        for more in range(chance.choice([0, 0, 1, 3, many]) if many > 1 else 0):
            lanes.add(tuple(chance.sample(range(many), 2)))
        yield mixed(chance, many, lanes)


SHAPES = (tree_lanes, row_lanes, ladder_lanes, wheel_lanes)


def shaped_nets(seed, how_many, fewest, most):
    """Nets of each shape, and nets of any lanes, the places' numbers mixed."""
    chance = random.Random(seed)
    for turn in range(how_many):
        for shape in SHAPES:
            many = chance.randint(fewest, most)
            yield mixed(chance, many, sorted(shape(chance, many))[:120])
    yield from some_nets(seed, how_many, fewest, most)


def plain_musts(net, gate):
    """For each reached place its musts, as a set, by closing every other one."""
    whole = reach(net, gate)
    without = {must: reach(net, gate, (must,)) for must in whole}
    return {place: {must for must in whole if place not in without[must]} for place in whole}


def plain_holders(net, gate):
    """The holders by the document's words: of the musts but the place itself the one with all others as musts."""
    told = plain_musts(net, gate)
    last = {place: [must for must in told[place] - {place} if told[must] == told[place] - {place}] for place in told}
    return tuple((last[place] + [gate])[0] if place in told else None for place in range(net[0]))


def stands_ahead(order, one, other):
    return order.index(one) < order.index(other)


def stands_above(paper, one, other):
    return all(stands_ahead(order, one, other) for order in paper)


def plain_lie(net, gate, paper):
    """A paper's first lie, each kind looked for by the document's words."""
    whole = reach(net, gate)
    for order in paper:
        if len(order) != len(whole) or set(order) != whole or order[0] != gate:
            return ("places",)
    unled = [
        (place, side)
        for place in whole - {gate}
        for side in (0, 1)
        if not [a for a, b in net[1] if b == place and a in whole and stands_ahead(paper[side], a, place)]
    ]
    if unled:
        place, side = min(unled)
        return ("low" if side == 0 else "high", place)
    lying = [
        (a, b)
        for a, b in net[1]
        if a in whole and b != gate
        and [c for c in whole if stands_above(paper, c, b) and c != a and not stands_above(paper, c, a)]
    ]
    return ("lane",) + min(lying) if lying else None


def every_paper(net, gate):
    """All pairs of orders of the reached places, the gate first."""
    orders = [(gate,) + rest for rest in permutations(sorted(reach(net, gate) - {gate}))]
    return [(low, high) for low in orders for high in orders]


def is_walk(order, told):
    """Whether behind each place of an order come all that are below it, with none between."""
    for spot, place in enumerate(order):
        below = {other for other in told if place in told[other] and other != place}
        if set(order[spot + 1:spot + 1 + len(below)]) != below:
            return False
    return True


def children_in(order, told, place):
    """The children of a place, as they stand in an order."""
    return [child for child in order if child != place and told[child] - {child} == told[place]]


def is_by_holders(paper, told):
    """Whether the orders are walks by the musts told, the children of each place opposite in the two."""
    low, high = paper
    opposite = all(children_in(low, told, place) == children_in(high, told, place)[::-1] for place in told)
    return is_walk(low, told) and is_walk(high, told) and opposite


def plain_family(net, gate, place):
    """The family of a reached place by the document's words, from the musts alone."""
    told = plain_musts(net, gate)
    children = [child for child in sorted(told) if told[child] - {child} == told[place] and child != place]
    led = [child for child in children if (place, child) in net[1]]
    arcs = [
        (c, d) for c in children for d in children
        if c != d and [a for a, b in net[1] if b == d and c in told.get(a, ())]
    ]
    return (tuple(children), tuple(led), tuple(arcs))


def plain_fits(family, order):
    children, led, arcs = family
    for child in children:
        tails = [c for c, d in arcs if d == child]
        ahead = [tail for tail in tails if stands_ahead(order, tail, child)]
        behind = [tail for tail in tails if stands_ahead(order, child, tail)]
        if child not in led and not (ahead and behind):
            return False
    return True
