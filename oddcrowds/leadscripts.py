"""Scripts from one standing to another one, and tidy scripts."""

from oddcrowds.calls import called_stretch
from oddcrowds.errors import BadNumber
from oddcrowds.leading import ask_like_people, calls_of_first, lead_bounds
from oddcrowds.losses import Losses
from oddcrowds.pieces import tidy_rows
from oddcrowds.scripts import calls_of, first_bad, standings_along, walked
from oddcrowds.words import is_integer

FIRST = 0
BETWEEN = 1
LAST = 2


def lead_script(one, other, calls):
    """Return a script with just so many calls that leads from one to other."""
    least, most = lead_bounds(one, other)
    if not is_integer(calls) or not least <= calls <= most:
        raise BadNumber(least, most)
    fewest, _ = calls_of_first(one, other)
    # If the number of voices is even, only one number of calls is left here.
    return script_with(one, other, fewest + calls - least)


def script_with(one, other, first):
    """Return a script from one to other in which the first crowd makes just so many calls, which keep all bounds."""
    return tidy_rows(one, Losses(one, other), first)


def judge_script(one, other, value):
    """Return None if a value, which may be anything, is a script that leads from one to other; else what is wrong."""
    ask_like_people(one, other)
    if not isinstance(value, (list, tuple)):
        return ("form",)
    bad = first_bad(one, value)
    if bad is not None:
        return ("row", bad)
    behind = walked(one, value)
    for name in one.names():
        if behind.place(name) != other.place(name):
            return ("end", name)
    return None


def shares_of_rows(standing, script):
    """Return for each row how many of its calls the first crowd, crowds between and the last one make, as triples.

    Raises BadCall as standings_along does.
    """
    return [_share_of_row(ahead, row) for ahead, row in zip(standings_along(standing, script), script)]


def _share_of_row(standing, row):
    name, times = row
    share = [0, 0, 0]
    behind = standing
    left = times
    while left > 0:
        position = _position(behind, name)
        behind, made = called_stretch(behind, name, left)
        share[position] += made
        left -= made
    return tuple(share)


def _position(standing, name):
    places = standing.places()
    if standing.place(name) == places[0]:
        return FIRST
    return LAST if standing.place(name) == places[-1] else BETWEEN


def is_tidy(standing, value):
    """Tell whether a value, which may be anything, is a tidy script at a standing."""
    if first_bad(standing, value) is not None:
        return False
    rows = [[position for position in (FIRST, BETWEEN, LAST) if share[position] > 0]
            for share in shares_of_rows(standing, value)]
    # Where no row between stands behind so many rows, they are all those between.
    return rows[rows.count([BETWEEN]):] in ([], [[FIRST]], [[LAST]], [[FIRST], [LAST]])


def tidy_script(standing, script):
    """Return a tidy script that leads where a script leads, by equally many calls."""
    return lead_script(standing, walked(standing, script), calls_of(script))
