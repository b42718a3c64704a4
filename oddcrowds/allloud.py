"""What there would be if every crowd might call, whatever voices it has."""

from oddcrowds.calls import called_stretch
from oddcrowds.errors import BadCall, UnknownName
from oddcrowds.gaps import gaps
from oddcrowds.pairs import most_pairs
from oddcrowds.standings import crowd_names
from oddcrowds.words import is_integer


def may_call_free(standing, _):
    """Tell whether the crowd of a person, whoever it is, may call: whether somebody stands elsewhere."""
    return not standing.is_together()


def free_called(standing, name):
    """Return the standing behind the call of the crowd of a person, whatever voices it has."""
    if not standing.has_name(name):
        raise UnknownName(name)
    if standing.is_together():
        raise BadCall(0)
    behind, _ = called_stretch(standing, name, 1)
    return behind


def free_callers(standing):
    """Return the list of the first person of each crowd that may call, from left to right."""
    return [] if standing.is_together() else crowd_names(standing)


def _all_steps(standing):
    """Return the sum of the widths of all gaps."""
    places = standing.places()
    return places[-1] - places[0]


def _most_between(standing):
    """Return how many calls of crowds between two others there can be at most."""
    return most_pairs([width for _, width, _ in gaps(standing)])


def free_numbers(standing):
    """Return the pair of the fewest and the most calls until all are together."""
    steps = _all_steps(standing)
    return (steps - _most_between(standing), steps)


def free_numbers_at(standing, place):
    """Return the pair of the fewest and the most calls until all are together at a place, None if this cannot be."""
    places = standing.places()
    if not is_integer(place) or not places[0] <= place <= places[-1]:
        return None
    steps = _all_steps(standing)
    # Half of all steps is never less than the shorter one of the two ways to the place.
    return (steps - min(place - places[0], places[-1] - place, _most_between(standing)), steps)


def can_meet_free(standing, place, calls):
    """Tell whether all can be together at a place for the first time behind just so many calls."""
    return free_paper(standing, place, calls) == ("meets",)


def free_paper(standing, place, calls):
    """Return the paper that tells whether all can be together at a place behind just so many calls, or why not."""
    if not is_integer(place) or not is_integer(calls):
        return ("many",)
    places = standing.places()
    between = _all_steps(standing) - calls
    if between < 0:
        return ("many",)
    if between > place - places[0]:
        return ("left",)
    if between > places[-1] - place:
        return ("right",)
    # More than half of all steps cannot be meant here: one of the two ways would have been too short.
    if between > _most_between(standing):
        return ("wide",)
    return ("meets",)
