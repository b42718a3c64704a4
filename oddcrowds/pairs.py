"""Steps of neighbouring gaps that are taken two by two, whatever their kinds."""


def most_pairs(numbers):
    """Return how many times two neighbours of a row of numbers can become less by one, at most."""
    total = sum(numbers)
    return min(total // 2, total - max(numbers, default=0))


def pair_rows(piece, calls, names):
    """Return rows of so many calls in all, each of which takes a step each from two neighbours of a piece.

    A piece is a list of pairs (gap, how many of its steps), from left to right, of which most_pairs lets so many calls
    be made; names are those of somebody of each crowd of the standing, from left to right.
    """
    left = [(gap, steps) for gap, steps in piece if steps > 0]
    rows = []
    missing = calls
    while missing > 0:
        at = _pair_with_widest(left)
        times = min(missing, left[at][1], left[at + 1][1], _times_left_to(left, at, missing))
        rows.append((names[left[at][0] + 1], times))
        left = [(gap, steps - times if k in (at, at + 1) else steps) for k, (gap, steps) in enumerate(left)]
        left = [(gap, steps) for gap, steps in left if steps > 0]
        missing -= times
    return rows


def _pair_with_widest(left):
    """Return the place of the first one of two neighbours of which one has the most steps of all."""
    steps_of_all = [steps for _, steps in left]
    return max(0, steps_of_all.index(max(steps_of_all)) - 1)


def _times_left_to(left, at, missing):
    """Return how many calls the two neighbours at a place can lose until another one has as many as must be left.

    No number may be greater than all that is left, less the calls that are missing; only calls of the greatest one
    keep it so then.
    """
    others = [steps for k, (_, steps) in enumerate(left) if k not in (at, at + 1)]
    return sum([steps for _, steps in left]) - missing - max(others, default=0)
