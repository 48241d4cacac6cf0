"""Looker: a paper looked over lane by lane, without a search for ways."""

from waymusts.errors import NoPaper
from waymusts.nets import MOST_PLACES, is_place, with_lane, without_lane
from waymusts.papers import all_above, is_order, leaves_out


def is_paper(gate, paper):
    """Whether two orders have the same places, each once, the gate first."""
    places = sorted(set(paper[0]))
    if not all([is_place(MOST_PLACES, place) for place in places]):
        return False
    return all([is_order(order, gate, places) for order in paper])


def all_led(order, lanes):
    """Whether to each place of an order but the first a lane leads from one ahead of it."""
    spots = {place: spot for spot, place in enumerate(order)}
    led = {other: True for one, other in lanes if spots[one] < spots[other]}
    return len(led) == len(order) - 1


class Looker:
    """Has a paper, and is told the lanes for which it may hold."""

    def __init__(self, gate, paper):
        if not is_paper(gate, paper):
            raise NoPaper("the orders are not of the same places, each once, the gate first")
        self.orders = paper
        self.above = all_above(paper)
        self.told = (MOST_PLACES, ())

    def lane(self, one, other):
        """A lane told."""
        self.told = with_lane(self.told, (one, other))

    def drop(self, one, other):
        """A lane taken out."""
        self.told = without_lane(self.told, (one, other))

    def lanes(self):
        """The lanes that are there, rising."""
        return self.told[1]

    def holds(self):
        """Whether the paper holds for the lanes that are there."""
        # Places that are not of the paper are not reached where it holds, so lanes from them show nothing.
        inner = [lane for lane in self.told[1] if lane[0] in self.above]
        # Only a lane that stays within the paper can be looked up in its orders.
        if not all([other in self.above and not leaves_out(self.above, one, other) for one, other in inner]):
            return False
        return all([all_led(order, inner) for order in self.orders])
