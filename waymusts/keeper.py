"""Keeper: a net whose lanes and places come and go, with a paper that stays as long as it holds."""

from waymusts.errors import NoPlace, NothingLeft
from waymusts.making import paper_of
from waymusts.musts import holders
from waymusts.nets import is_place, with_lane, without_lane
from waymusts.papers import holds
from waymusts.parts import only


def news_of(elder, newer):
    """The places whose holder is another one, each with its elder and its newer one, rising."""
    return tuple([(place, old, new) for place, (old, new) in enumerate(zip(elder, newer)) if old != new])


class Keeper:
    """Keeps a paper for a net and a gate, and what was done."""

    def __init__(self, net, gate):
        self.entry = gate
        # All that deeds change: the net with the lanes that are there, and the closed places.
        self.state = (net, ())
        self.past = []
        self.undone = []
        self.shown = paper_of(net, gate)
        self.held = holders(net, gate)
        self.makings = 1

    def put(self, one, other):
        """A lane put in: the news."""
        net, shut = self.state
        return self.do((with_lane(net, (one, other)), shut))

    def drop(self, one, other):
        """A lane dropped: the news."""
        net, shut = self.state
        return self.do((without_lane(net, (one, other)), shut))

    def close(self, place):
        """A place closed: the news."""
        net, shut = self.state
        if not is_place(net[0], place) or place == self.entry or place in shut:
            raise NoPlace(f"{place} can't be closed")
        return self.do((net, tuple(sorted(shut + (place,)))))

    def reopen(self, place):
        """A closed place opened again: the news."""
        net, shut = self.state
        if place not in shut:
            raise NoPlace(f"{place} is not closed")
        return self.do((net, tuple([other for other in shut if other != place])))

    def back(self):
        """The last deed taken back: the news."""
        if not self.past:
            raise NothingLeft("there is no deed to take back")
        self.undone.append(self.state)
        return self.go_to(self.past.pop())

    def again(self):
        """What was taken back last done again: the news."""
        if not self.undone:
            raise NothingLeft("there is no deed to do again")
        self.past.append(self.state)
        return self.go_to(self.undone.pop())

    def do(self, state):
        """A deed done that leads to a state: the news."""
        self.past.append(self.state)
        self.undone = []
        return self.go_to(state)

    def go_to(self, state):
        """The state exchanged, and the paper where it holds no more: the news."""
        self.state = state
        net = self.net_left()
        if not holds(net, self.entry, self.shown):
            self.shown = paper_of(net, self.entry)
            self.makings += 1
        elder = self.held
        self.held = holders(net, self.entry)
        return news_of(elder, self.held)

    def net(self):
        """The net with all lanes that are there."""
        return self.state[0]

    def net_left(self):
        """The net without the lanes of closed places."""
        net, shut = self.state
        return only(net, [place for place in range(net[0]) if place not in shut])

    def closed(self):
        """The closed places, rising."""
        return self.state[1]

    def gate(self):
        """The gate."""
        return self.entry

    def paper(self):
        """A paper that holds for the net without what is closed."""
        return self.shown

    def holders(self):
        """The holders of all places, by the net without what is closed."""
        return self.held

    def made(self):
        """How often a paper was made."""
        return self.makings
