"""What a standing leads to, found by going through call by call."""

from oddcrowds.calls import called, callers
from oddcrowds.errors import TooGreat, UnlikePeople
from oddcrowds.standings import are_like, places_in_order
from oddcrowds.words import is_number

MOST_TOLD = 500


def reached(standing):
    """Return the list of the pairs (standing, numbers of calls) of all that a standing leads to, by places."""
    standings, ways = _found_from(standing, MOST_TOLD)
    numbers = {places: [] for places in standings}
    for calls, level in enumerate(_levels(places_in_order(standing), ways)):
        for places in level:
            numbers[places].append(calls)
    return [(standings[places], numbers[places]) for places in sorted(standings)]


def numbers_by_walks(one, other):
    """Return the ascending list of the numbers of calls by which one leads to other."""
    goal = places_in_order(other)
    return [calls for calls, level in enumerate(_levels_from(one, other)) if goal in level]


def script_by_walks(one, other, calls):
    """Return a script with just so many calls that leads from one to other, None if there is none."""
    levels = _levels_from(one, other)
    places = places_in_order(other)
    if not is_number(calls) or calls >= len(levels) or places not in levels[calls]:
        return None
    rows = []
    for level in reversed(levels[1:calls + 1]):
        name, places = level[places]
        rows.append((name, 1))
    return rows[::-1]


def _levels_from(one, other):
    if not are_like(one, other):
        raise UnlikePeople()
    _, ways = _found_from(one, None)
    return _levels(places_in_order(one), ways)


def _found_from(standing, most):
    """Return all standings to which one leads, and the ways on from each of them, both by places.

    A way on is a pair of a caller and the places behind the call. Raises TooGreat if there are more
    standings than most, unless this is None.
    """
    start = places_in_order(standing)
    standings = {start: standing}
    ways = {}
    waiting = [start]
    while waiting:
        places = waiting.pop()
        here = standings[places]
        ways[places] = []
        for name in callers(here):
            behind = called(here, name)
            goal = places_in_order(behind)
            ways[places].append((name, goal))
            if goal not in standings:
                standings[goal] = behind
                waiting.append(goal)
        if most is not None and len(standings) > most:
            raise TooGreat()
    return standings, ways


def _levels(start, ways):
    """Return the list in which level k tells all that is reached by just k calls, with a last call to each.

    A level is a dict from places to a pair of the caller and the places ahead of the call.
    """
    found = []
    level = {start: None}
    while level:
        found.append(level)
        level = _next_level(level, ways)
    return found


def _next_level(level, ways):
    found = {}
    for places in level:
        for name, goal in ways[places]:
            found[goal] = (name, places)
    return found
