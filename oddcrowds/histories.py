"""Histories: calls one after the other, each told by its caller alone."""

from oddcrowds.calls import called, callers
from oddcrowds.leading import ask_like_people, leads
from oddcrowds.ways import counts_between, first_wrong, ways_on


def history_ways(one, other):
    """Return the ways on from one to other, as ways_on tells them."""
    return ways_on(one, other, callers, called, leads)


def wrong_in_history(one, other, value):
    """Return what first_wrong tells of a value, which may be anything: None if it is a history from one to other."""
    ask_like_people(one, other)
    return first_wrong(one, other, value, callers, called)


def count_histories(one, other):
    """Return the number of the histories from one to other."""
    return sum([many for _, many in counts_by_calls(one, other)])


def counts_by_calls(one, other):
    """Return the ascending list of the pairs (calls, how many) of all histories from one to other."""
    return counts_between(one, history_ways(one, other))


def is_history(one, other, value):
    """Tell whether a value, which may be anything, is a history from one to other, as a tuple."""
    return wrong_in_history(one, other, value) is None
