"""What stands between two standings, and which of several goals is nearest."""

from oddcrowds.calls import called
from oddcrowds.choosing import callers_on
from oddcrowds.errors import TooGreat
from oddcrowds.leading import ask_like_people, lead_bounds, leads
from oddcrowds.standings import places_in_order

MOST_TOLD = 500


def is_between(one, third, other):
    """Tell whether one leads to third, and third to other."""
    ask_like_people(one, third)
    # Where one does not lead to other, this raises what is asked for.
    lead_bounds(one, other)
    return leads(one, third) and leads(third, other)


def all_between(one, other):
    """Return the list of all standings between one and other, ordered by the places of all people.

    Raises what callers_on raises where one does not lead to other.
    """
    found = {places_in_order(one): one}
    waiting = [one]
    while waiting:
        here = waiting.pop()
        for name in callers_on(here, other):
            behind = called(here, name)
            if places_in_order(behind) not in found:
                found[places_in_order(behind)] = behind
                waiting.append(behind)
        if len(found) > MOST_TOLD:
            raise TooGreat()
    return [found[places] for places in sorted(found)]


def nearest_of(one, standings):
    """Return the place in the list of the first standing that is reached by the fewest calls, None if none is."""
    best = None
    for k, other in enumerate(standings):
        if not leads(one, other):
            continue
        least, _ = lead_bounds(one, other)
        if best is None or least < best[0]:
            best = (least, k)
    return None if best is None else best[1]
