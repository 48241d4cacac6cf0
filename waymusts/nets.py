"""Nets: places, and one-way lanes between them."""

from waymusts.errors import NoLane

MOST_PLACES = 24
MOST_LANES = 120


def is_whole(thing):
    """Whether a thing is a whole number."""
    # Python counts True and False among the integers; here they are none.
    return isinstance(thing, int) and not isinstance(thing, bool)


def is_place(many, thing):
    """Whether a thing is one of so many places."""
    return is_whole(thing) and 0 <= thing < many


def is_lane(many, thing):
    """Whether a thing is a lane between two unlike ones of so many places."""
    if not isinstance(thing, tuple) or len(thing) != 2:
        return False
    one, other = thing
    return is_place(many, one) and is_place(many, other) and one != other


def is_net(thing):
    """Whether a thing, of whatever kind, is a net."""
    if not isinstance(thing, tuple) or len(thing) != 2:
        return False
    many, lanes = thing
    if not is_whole(many) or not 1 <= many <= MOST_PLACES:
        return False
    if not isinstance(lanes, tuple) or len(lanes) > MOST_LANES:
        return False
    # Only lanes can be compared with one another, so that is looked at first.
    if not all([is_lane(many, lane) for lane in lanes]):
        return False
    return all([lane < later for lane, later in zip(lanes, lanes[1:])])


def turned(net):
    """The net with each lane turned about."""
    many, lanes = net
    return (many, tuple(sorted([(other, one) for one, other in lanes])))


def with_lane(net, lane):
    """The net with one lane more."""
    many, lanes = net
    if not is_lane(many, lane) or lane in lanes or len(lanes) >= MOST_LANES:
        raise NoLane(f"the lane {lane} can't be put in")
    return (many, tuple(sorted(lanes + (lane,))))


def without_lane(net, lane):
    """The net without one of its lanes."""
    many, lanes = net
    if lane not in lanes:
        raise NoLane(f"there is no lane {lane}")
    return (many, tuple([kept for kept in lanes if kept != lane]))
