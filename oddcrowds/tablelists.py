"""All fall tables of the histories from one standing to another one."""

from oddcrowds.errors import TooGreat
from oddcrowds.leading import calls_of_first, leads
from oddcrowds.losses import Losses
from oddcrowds.runs import tables_of_runs

MOST_TOLD = 500


def fall_tables(one, other):
    """Return the ascending list of the fall tables of all histories from one to other."""
    if not leads(one, other):
        return []
    losses = Losses(one, other)
    fewest, most = calls_of_first(one, other)
    found = []
    # Tables with unlike numbers of calls of the first crowd are unlike.
    for first in range(fewest, most + 1):
        found.extend(_tables_with(losses, first, MOST_TOLD - len(found)))
    return sorted(found)


def _tables_with(losses, first, most):
    """Return all tables with so many calls of the first crowd; raises TooGreat if there are more than most."""
    found = [()]
    for runs in _rows_of_runs(losses, first):
        tables = tables_of_runs(runs, len(losses.lost), most)
        if len(found) * len(tables) > most:
            raise TooGreat()
        found = [(*rows, *table) for rows in found for table in tables]
    return [sorted(rows) for rows in found]


def _rows_of_runs(losses, first):
    """Return the rows of runs that fall among themselves, with so many calls of the first crowd, from left to right.

    A row ends at each kept gap: so many of its steps fall on its left side that there are as many odd as even ones.
    """
    found = []
    runs = [(-1, -1, first)]
    height = -first
    for gap, (lost, sign, kept) in enumerate(zip(losses.lost, losses.signs, losses.kept)):
        on_left = lost if kept == 0 else -sign * height
        runs.append((gap, sign, on_left))
        height += sign * on_left
        if kept > 0:
            found.append(runs)
            runs = [(gap, sign, lost - on_left)]
            height = sign * (lost - on_left)
    # What is over falls with steps that the last crowd takes.
    runs.append((len(losses.lost), -1 if height > 0 else 1, abs(height)))
    return [[run for run in row if run[2] > 0] for row in [*found, runs]]
