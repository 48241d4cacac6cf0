"""What the tests compare the program with: the document's words, taken as plainly as can be."""

import random
from itertools import combinations


def net_of(many, lanes):
    return (many, tuple(sorted(lanes)))


def all_pairs(many):
    return [(one, other) for one in range(many) for other in range(many) if one != other]


def every_net(many):
    pairs = all_pairs(many)
    for count in range(len(pairs) + 1):
        for lanes in combinations(pairs, count):
            yield (many, lanes)


def some_nets(seed, how_many, fewest, most):
    """Nets of mixed sizes and thickness, the same ones for the same seed."""
    chance = random.Random(seed)
    for turn in range(how_many):
        many = chance.randint(fewest, most)
        pairs = all_pairs(many)
        # Thin nets are those with musts, so most of them have about as many lanes as places.
        wish = chance.choice([many - 1, many + 2, 3 * many // 2, 2 * many, 4 * many])
        yield net_of(many, chance.sample(pairs, min(wish, len(pairs), 120)))


def ways_of(net, one, other):
    """All ways from a place to a place, by trying every step."""
    found = []

    def go(way):
        if way[-1] == other:
            found.append(way)
            return
        for head in range(net[0]):
            if head not in way and (way[-1], head) in net[1]:
                go(way + (head,))

    go((one,))
    return found


def reach(net, gate, closed=(), dropped=None):
    """The places reached from a gate, by letting them grow until nothing comes."""
    grown = {gate} - set(closed)
    while True:
        more = {b for a, b in net[1] if a in grown and b not in closed and (a, b) != dropped}
        if more <= grown:
            return grown
        grown |= more


def is_told(thing):
    """Whether a thing is made of tuples, whole numbers, texts, truths and None only."""
    if type(thing) is tuple:
        return all(is_told(part) for part in thing)
    return thing is None or type(thing) in (int, str, bool)
