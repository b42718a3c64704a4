"""Free histories: free calls one after the other, each told by the first person of its crowd."""

from oddcrowds.allloud import free_called, free_callers
from oddcrowds.freeleads import freely_leads
from oddcrowds.leading import ask_like_people
from oddcrowds.ways import counts_between, first_wrong, ways_on


def count_free(one, other):
    """Return the number of the free histories from one to other."""
    return sum([many for _, many in free_counts(one, other)])


def free_counts(one, other):
    """Return the ascending list of the pairs (calls, how many) of all free histories from one to other."""
    return counts_between(one, ways_on(one, other, free_callers, free_called, freely_leads))


def is_free_history(one, other, value):
    """Tell whether a value, which may be anything, is a free history from one to other, as a tuple."""
    ask_like_people(one, other)
    return first_wrong(one, other, value, free_callers, free_called) is None
