"""Fall tables of a row of runs of steps that fall among themselves.

A run is a triple (gap, sign, steps): how many steps of a gap, with the sign 1 if they are odd ones and -1 if they are
even ones. -1 stands for a gap left of all gaps, and the number of all gaps for one right of them: they have the steps
that fall together with those which the first crowd and the last one take alone. A row of runs has as many odd steps as
even ones.
"""

from oddcrowds.errors import TooGreat


def tables_of_runs(runs, last, most):
    """Return all tables of the steps of a row of runs, each a tuple of triples (gap, gap, many), in any order.

    last is the gap whose steps do not fall together with those of gap -1. Raises TooGreat if there are more tables
    than most.
    """
    # From left to right it is chosen, run by run, how many of its steps fall with steps left of them. The others are
    # open until steps right of them fall with them. What is open is told bottom up; the uppermost falls first.
    found = [((), ())]
    for k, run in enumerate(runs):
        behind = []
        for opened, rows in found:
            behind.extend(_choices(opened, rows, run, runs[k + 1:], last))
        # Each of these can be gone on with, and unlike ones lead to unlike tables.
        if len(behind) > most:
            raise TooGreat()
        found = behind
    return [rows for _, rows in found]


def _choices(opened, rows, run, rest, last):
    """Return the pairs (opened, rows) behind a run, one for each number of its steps that fall with opened ones."""
    gap, sign, steps = run
    stages = _closed_one_by_one(opened, rows, gap, sign, steps)
    found = []
    # If so many of the steps can fall with opened ones, so can more of them: what would have fallen later with the
    # two steps that now fall together falls among itself then. So the choices are looked for from the most on.
    for left_opened, new_rows, over in reversed(stages):
        still_opened = (*left_opened, (gap, sign, over)) if over > 0 else left_opened
        if not _can_be_closed(still_opened, rest, last):
            break
        found.append((still_opened, new_rows))
    return found


def _closed_one_by_one(opened, rows, gap, sign, steps):
    """Return the triples (opened, rows, steps that are over) for 0, 1, 2, .. steps that fall with opened ones."""
    found = [(opened, rows, steps)]
    for over in range(steps - 1, -1, -1):
        left_opened, new_rows, _ = found[-1]
        if not left_opened or left_opened[-1][1] == sign:
            break
        other, own_sign, many = left_opened[-1]
        rest_opened = left_opened[:-1] if many == 1 else (*left_opened[:-1], (other, own_sign, many - 1))
        found.append((rest_opened, _with_one_more(new_rows, other, gap), over))
    return found


def _with_one_more(rows, left, right):
    if rows and rows[-1][:2] == (left, right):
        return (*rows[:-1], (left, right, rows[-1][2] + 1))
    return (*rows, (left, right, 1))


def _can_be_closed(opened, rest, last):
    """Tell whether all steps that are open can fall with steps of the runs that are left."""
    runs = rest
    if opened and opened[0][0] == -1:
        runs = [run for run in rest if run[0] != last]
    waiting = list(opened)
    # What is open falls as early as it can: where the steps on the way have taken it down or up by its number.
    missing = waiting[-1][2] if waiting else 0
    for _, sign, steps in runs:
        left = steps
        while waiting and left > 0:
            if waiting[-1][1] == sign:
                missing += left
                left = 0
            elif missing > left:
                missing -= left
                left = 0
            else:
                left -= missing
                waiting.pop()
                missing = waiting[-1][2] if waiting else 0
    return not waiting
