"""Counted: how many papers hold for a net and a gate, and which number each one has."""

from waymusts.errors import NoPaper, NoSuch, TooMany
from waymusts.families import family_held, fits, paper_by
from waymusts.musts import holders
from waymusts.papers import holds

MOST_CHILDREN = 5


def fitting_orders(family):
    """All orders of a family's children that fit, rising."""
    children = family[0]
    orders = [()]
    for turn in range(len(children)):
        orders = [order + (child,) for order in orders for child in children if child not in order]
    return [order for order in orders if fits(family, order)]


def orders_held(net, held):
    """For each reached place the orders of its children that fit, by the holders of all places."""
    places = [place for place, holder in enumerate(held) if holder is not None]
    families = {place: family_held(net, held, place) for place in places}
    if any([len(families[place][0]) > MOST_CHILDREN for place in places]):
        raise TooMany(f"a place holds more than {MOST_CHILDREN} others")
    return {place: fitting_orders(families[place]) for place in places}


def count_of(orders):
    """How many ways there are to choose one of the orders of each place."""
    many = 1
    for place in orders:
        many *= len(orders[place])
    return many


def papers_many(net, gate):
    """How many papers hold for a net and a gate."""
    return count_of(orders_held(net, holders(net, gate)))


def count_ahead(orders, place, spot, child):
    """How many choices have a lesser child of a place than this one at a spot of its order."""
    lesser = [order for order in orders[place] if order[spot] < child]
    return count_of(orders) // len(orders[place]) * len(lesser)


def orders_with(orders, place, spot, child):
    """The orders of a place that have a child at a spot."""
    return [order for order in orders[place] if order[spot] == child]


def children_gone(held, walk, place):
    """How many of the children of a place a walk has had."""
    return len([child for child in walk if held[child] == place and child != place])


def next_holder(held, walk, orders):
    """The place whose child comes next in a walk that isn't at its end."""
    place = walk[-1]
    while children_gone(held, walk, place) == len(orders[place][0]):
        place = held[place]
    return place


def paper_numbered(net, gate, number):
    """The paper of a number, of those that hold, in the order of their low orders."""
    held = holders(net, gate)
    orders = orders_held(net, held)
    if not 0 <= number < count_of(orders):
        raise NoSuch(f"no paper has the number {number}")
    walk = [gate]
    while len(walk) < len(orders):
        place = next_holder(held, walk, orders)
        spot = children_gone(held, walk, place)
        # Each order left of this place stands for equally many papers, so the number tells where it falls.
        child = orders[place][number * len(orders[place]) // count_of(orders)][spot]
        number -= count_ahead(orders, place, spot, child)
        orders[place] = orders_with(orders, place, spot, child)
        walk.append(child)
    return paper_by({place: orders[place][0] for place in orders}, gate)


def number_of(net, gate, paper):
    """The number of a paper that holds."""
    if not holds(net, gate, paper):
        raise NoPaper("the paper does not hold")
    held = holders(net, gate)
    orders = orders_held(net, held)
    low = paper[0]
    number = 0
    for at, child in enumerate(low[1:], start=1):
        spot = children_gone(held, low[:at], held[child])
        number += count_ahead(orders, held[child], spot, child)
        orders[held[child]] = orders_with(orders, held[child], spot, child)
    return number
