"""Which callers lead on to a goal, and what is lost by a call."""

from oddcrowds.calls import called, callers
from oddcrowds.leading import lead_bounds, leads


def callers_on(one, other):
    """Return the list of the callers of one that lead on to other, from left to right."""
    # Where one does not lead to other, this raises what is asked for.
    lead_bounds(one, other)
    return [name for name in callers(one) if leads(called(one, name), other)]


def callers_barring(one, other):
    """Return the list of the callers of one behind whose call other is out of reach, from left to right."""
    leading_on = callers_on(one, other)
    return [name for name in callers(one) if name not in leading_on]


def lost_by(one, other, name):
    """Return the pair (early, late) of what is lost by the call of the crowd of a person."""
    least, most = lead_bounds(one, other)
    least_behind, most_behind = lead_bounds(called(one, name), other)
    return (least_behind - (least - 1), most - 1 - most_behind)


def fewest_callers(one, other):
    """Return the list of the callers whose calls begin a fewest way, from left to right."""
    return [name for name in callers_on(one, other) if lost_by(one, other, name)[0] == 0]


def most_callers(one, other):
    """Return the list of the callers whose calls begin a most way, from left to right."""
    return [name for name in callers_on(one, other) if lost_by(one, other, name)[1] == 0]
