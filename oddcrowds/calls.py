"""Which crowds are loud and can call, and what calls lead to."""

from oddcrowds.errors import BadCall
from oddcrowds.heights import loud_places
from oddcrowds.standings import placed, places_in_order


def is_loud(standing, name):
    """Tell whether the crowd of a person has an odd number of voices."""
    return standing.place(name) in loud_places(standing)


def can_call(standing, name):
    """Tell whether the crowd of a person is loud and somebody stands elsewhere."""
    return is_loud(standing, name) and not standing.is_together()


def called(standing, name):
    """Return the standing behind the call of the crowd of a person."""
    if not can_call(standing, name):
        raise BadCall(0)
    return _nearer(standing, standing.place(name), 1)


def step_towards(place, goal):
    """Return what one step from a place to a goal adds to the place."""
    if place == goal:
        return 0
    return 1 if place < goal else -1


def _nearer(standing, goal, steps):
    """Return the standing in which all who are not at the goal have come so many steps nearer to it."""
    places = places_in_order(standing)
    return placed(standing, [place + steps * step_towards(place, goal) for place in places])


def callers(standing):
    """Return the list of the callers, from left to right."""
    if standing.is_together():
        return []
    return [standing.at(place)[0] for place in loud_places(standing)]


def is_quiet(standing):
    """Tell whether no crowd can call."""
    return callers(standing) == []


def times_of(standing, name):
    """Return how many times, one after the other, the crowd of a person can call, as it is each time."""
    if not can_call(standing, name):
        return 0
    places = standing.places()
    # Each call makes the sum of all gaps less by at least one.
    _, made = called_up_to(standing, name, places[-1] - places[0], can_call)
    return made


def called_up_to(standing, name, most, may_call):
    """Return the standing behind as many calls of a crowd as may be made, at most so many, and their number.

    may_call(standing, name) tells whether the crowd of a person may call; behind a call this changes only if a gap
    beside the crowd is gone.
    """
    behind = standing
    made = 0
    while made < most and may_call(behind, name):
        behind, times = called_stretch(behind, name, most - made)
        made += times
    return behind, made


def called_stretch(standing, name, most):
    """Return the standing behind calls of a crowd that can call, at most so many, and their number.

    They end with the call by which a gap beside the crowd is gone: until then nothing about its voices changes.
    """
    place = standing.place(name)
    times = min(most, _nearest(standing, place))
    return _nearer(standing, place, times), times


def _nearest(standing, place):
    return min([abs(other - place) for other in standing.places() if other != place])
