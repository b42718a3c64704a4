"""Scripts that are made piece by piece, so that they are tidy."""

from oddcrowds.standings import crowd_names


def tidy_rows(one, losses, calls_of_first):
    """Return a tidy script by which the gaps of one lose what they lose, and the first crowd makes so many calls.

    That many calls must be able to do it.
    """
    names = crowd_names(one)
    left, right = _parted(losses, calls_of_first)
    rows, _ = _fallen(left, losses.signs, names)
    rows_right, over = _fallen(right, losses.signs, names)
    rows.extend(rows_right)
    # What is over on the left are just the odd steps that the first crowd takes.
    if calls_of_first > 0:
        rows.append((names[0], calls_of_first))
    if over > 0:
        rows.append((names[-1], over))
    return rows


def _parted(losses, height):
    """Return the steps that are lost left of the first integer with a height, and those right of it.

    Heights count lost steps alone here. Both are lists of pairs (gap, how many steps), from left to right.
    """
    left = []
    right = []
    missing = height
    for gap, (lost, sign) in enumerate(zip(losses.lost, losses.signs)):
        on_left = lost if sign == -1 and missing > 0 else min(lost, missing)
        missing -= sign * on_left
        left.append((gap, on_left))
        right.append((gap, lost - on_left))
    return left, right


def _fallen(piece, signs, names):
    """Return the rows of crowds between unlike gaps of a piece, as long as there are any, and how many steps are over.

    What waits are steps of like gaps. So nothing waits at what is left of a kept gap: ahead of it as many odd steps
    as even ones are lost in the piece. Therefore all gaps between two that lose steps together are gone.
    """
    rows = []
    waiting = []
    for gap, steps in piece:
        left = steps
        while left > 0 and waiting and signs[waiting[-1][0]] != signs[gap]:
            near, many = waiting.pop()
            times = min(many, left)
            rows.append((names[near + 1], times))
            left -= times
            if many > times:
                waiting.append((near, many - times))
        if left > 0:
            waiting.append((gap, left))
    return rows, sum([many for _, many in waiting])
