"""Scripts of free calls."""

from oddcrowds.allloud import free_paper, may_call_free
from oddcrowds.errors import BadCall, NoLead
from oddcrowds.gaps import gaps
from oddcrowds.pairs import pair_rows
from oddcrowds.scripts import calls_of, followed
from oddcrowds.standings import crowd_names
from oddcrowds.words import is_integer


def free_walked(standing, script):
    """Return the standing to which a free script leads."""
    found, bad = followed(standing, script, may_call_free)
    if bad is not None:
        raise BadCall(bad)
    return found[-1]


def free_script(standing, place, calls):
    """Return a free script with just so many calls behind which all are together at a place."""
    paper = free_paper(standing, place, calls)
    if paper != ("meets",):
        raise NoLead(paper)
    places = standing.places()
    between = places[-1] - places[0] - calls
    piece = [(gap, width) for gap, (_, width, _) in enumerate(gaps(standing))]
    return rows_of_pieces(standing, [(piece, between)], places[-1] - place - between, place - places[0] - between)


def rows_of_pieces(standing, pieces, first, last):
    """Return rows of calls between in each piece, and then of so many calls of the first and of the last crowd.

    pieces are pairs of a piece, as pair_rows takes it, and how many calls are made in it.
    """
    names = crowd_names(standing)
    rows = []
    for piece, calls in pieces:
        rows.extend(pair_rows(piece, calls, names))
    rows.extend([(name, times) for name, times in ((names[0], first), (names[-1], last)) if times > 0])
    return rows


def judge_free(standing, place, calls, value):
    """Return None if a value, which may be anything, is a free script as free_script makes it; else what is wrong."""
    if not isinstance(value, (list, tuple)):
        return ("form",)
    found, bad = followed(standing, value, may_call_free)
    if bad is not None:
        return ("row", bad)
    if not found[-1].is_together():
        return ("apart",)
    reached = found[-1].places()[0]
    if not is_integer(place) or place != reached:
        return ("place", reached)
    made = calls_of(value)
    if not is_integer(calls) or calls != made:
        return ("calls", made)
    return None
