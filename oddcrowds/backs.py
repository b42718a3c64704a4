"""The standings from which a standing comes by one call."""

from oddcrowds.calls import called, callers, step_towards
from oddcrowds.errors import TooGreat, UnlikePeople
from oddcrowds.standings import are_like, placed, places_in_order

MOST_TOLD = 500


def count_back(standing):
    """Return how many standings there are from which one call leads to this one."""
    many = sum([_count_partings(_crowd_voices(standing, place)) for place in standing.places()])
    if standing.is_together() and standing.voices() % 2 == 1:
        # Where all people stay, nobody stands elsewhere, and the crowd cannot call.
        return many - 1
    return many


def _crowd_voices(standing, place):
    return [standing.voice(name) for name in standing.at(place)]


def _count_partings(voices):
    loud = sum(voices)
    return (_power_of_three(loud) - 1) // 2 * _power_of_three(len(voices) - loud)


def _power_of_three(exponent):
    power = 1
    for _ in range(exponent):
        power *= 3
    return power


def back_standings(standing):
    """Return the list of the standings from which one call leads to this one, ordered by places."""
    if count_back(standing) > MOST_TOLD:
        raise TooGreat()
    found = []
    for place in standing.places():
        found.extend(_places_back(standing, place))
    return [placed(standing, places) for places in sorted(found)]


def _places_back(standing, centre):
    """Return the places of all people ahead of each call at this place that leads to the standing."""
    names = standing.at(centre)
    own = places_in_order(standing)
    found = []
    for steps in _partings(_crowd_voices(standing, centre)):
        step_of = dict(zip(names, steps))
        away = [place + step_of.get(name, -step_towards(place, centre)) for name, place, _ in standing.people()]
        # They are the own places only where all people stay, and this is no call.
        if tuple(away) != own:
            found.append(tuple(away))
    return found


def _partings(voices):
    """Return all tuples of -1, 0, 1 for the people of a crowd, of whom those with 0 have an odd number of voices."""
    if 1 not in voices:
        # Twelve people without a voice can be parted in half a million ways, and none will do.
        return []
    found = [()]
    for _ in voices:
        found = [(*steps, step) for steps in found for step in (-1, 0, 1)]
    return [steps for steps in found if _stay_is_loud(voices, steps)]


def _stay_is_loud(voices, steps):
    return sum([voice for voice, step in zip(voices, steps) if step == 0]) % 2 == 1


def comes_from(standing, other):
    """Tell whether one call of other leads to standing."""
    if not are_like(standing, other):
        raise UnlikePeople()
    return any([called(other, name) == standing for name in callers(other)])
