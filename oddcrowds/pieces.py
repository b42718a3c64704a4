"""Scripts that are made piece by piece: what lies between two stretches that are kept falls for itself."""

from oddcrowds.standings import crowd_names


def tidy_rows(one, losses, calls_of_first):
    """Return a tidy script by which the gaps of one lose what they lose, and the first crowd makes so many calls.

    That many calls must be able to do it.
    """
    names = crowd_names(one)
    rows = []
    over = 0
    for piece in _pieces(losses, _cuts(losses, calls_of_first)):
        rows_between, over = _fallen(piece, losses.signs, names)
        rows.extend(rows_between)
    # What is over of the first piece are just the steps that the first crowd takes.
    if calls_of_first > 0:
        rows.append((names[0], calls_of_first))
    if over > 0:
        rows.append((names[-1], over))
    return rows


def _cuts(losses, calls_of_first):
    """Return the dict from each gap within which a piece ends to how many of its lost steps fall on its left.

    These are the kept gaps; if there are none, it is one gap with the height up to which the first crowd calls.
    """
    heights = losses.heights()
    cuts = {gap: abs(calls_of_first - heights[gap]) for gap, kept in enumerate(losses.kept) if kept > 0}
    if cuts:
        return cuts
    for gap, (start, goal) in enumerate(zip(heights, heights[1:])):
        if min(start, goal) <= calls_of_first <= max(start, goal):
            return {gap: abs(calls_of_first - start)}
    return {}


def _pieces(losses, cuts):
    """Return the pieces from left to right, each as a list of pairs (gap, how many of its steps)."""
    found = [[]]
    for gap, lost in enumerate(losses.lost):
        if gap in cuts:
            found[-1].append((gap, cuts[gap]))
            found.append([(gap, lost - cuts[gap])])
        else:
            found[-1].append((gap, lost))
    return found


def _fallen(piece, signs, names):
    """Return the rows of crowds between unlike gaps of a piece, as long as there are any, and how many steps are over.

    What is over are steps of like gaps.
    """
    rows = []
    waiting = []
    for gap, steps in piece:
        left = steps
        while left > 0 and waiting and signs[waiting[-1][0]] != signs[gap]:
            near, many = waiting.pop()
            times = min(many, left)
            # All gaps between the two are gone, so this is one crowd.
            rows.append((names[near + 1], times))
            left -= times
            if many > times:
                waiting.append((near, many - times))
        if left > 0:
            waiting.append((gap, left))
    return rows, sum([many for _, many in waiting])
