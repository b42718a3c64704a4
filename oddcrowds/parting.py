"""When it ends if the number of voices is even, and which standings are ends.

An end is told by a pair (level, kept): how many calls the first crowd has made, and for each even gap of the given
standing how many of its steps are left.
"""

from oddcrowds.errors import BadNumber, OddVoices
from oddcrowds.gaps import even_sum, gaps, odd_sum, with_widths
from oddcrowds.heights import corners, greatest_fall, height_at
from oddcrowds.losses import Losses, broken_pair
from oddcrowds.standings import Standing, are_like
from oddcrowds.words import is_integer


def ask_even_voices(standing):
    """Raise OddVoices if the number of voices is odd."""
    if standing.voices() % 2 == 1:
        raise OddVoices()


def left_calls(standing):
    """Return how many calls there are to the end, whoever calls."""
    ask_even_voices(standing)
    return odd_sum(standing)


def widths(standing):
    """Return the pair of the least and the greatest width of ends."""
    ask_even_voices(standing)
    fall = greatest_fall(standing)
    return (max(0, -last_height(standing)), 0 if fall is None else fall[0])


def last_height(standing):
    """Return the height at the last place, 0 for nobody."""
    return odd_sum(standing) - even_sum(standing)


def even_gaps(standing):
    """Return the list of the pairs (height at the left end, width) of all even gaps, from left to right."""
    return [(height, width) for (_, width, kind), (_, height) in zip(gaps(standing), corners(standing))
            if kind == "even"]


def end_told_by(standing, level, kept):
    """Return the end that is told by a level and the steps that are left."""
    found = []
    evens = 0
    for _, _, kind in gaps(standing):
        found.append(kept[evens] if kind == "even" else 0)
        evens += 1 if kind == "even" else 0
    # Each call but those of the first crowd moves the first place one step.
    return with_widths(standing, odd_sum(standing) - level, found)


def is_end(standing, value):
    """Tell whether a value, which may be anything, is a standing that is an end of the given one."""
    ask_even_voices(standing)
    return telling_of(standing, value) is not None


def telling_of(standing, value):
    """Return the pair (level, kept) that tells an end, None if a value, which may be anything, is no end."""
    if not isinstance(value, Standing) or not are_like(standing, value) or broken_pair(standing, value) is not None:
        return None
    losses = Losses(standing, value)
    if any([kept for kept, sign in zip(losses.kept, losses.signs) if sign == 1]):
        return None
    level = odd_sum(standing) - losses.moved
    kept_steps = tuple([kept for kept, sign in zip(losses.kept, losses.signs) if sign == -1])
    if level < 0 or not _goes_down(standing, level, kept_steps):
        return None
    return (level, kept_steps)


def _goes_down(standing, level, kept_steps):
    """Tell whether the steps that are left go down height by height, from a level, far enough."""
    height = level
    for (start, width), kept in zip(even_gaps(standing), kept_steps):
        if kept > 0 and not start - width + kept <= height <= start:
            return False
        height -= kept
    return height <= last_height(standing)


def end_of_width(standing, width):
    """Return an end with a width."""
    least, most = widths(standing)
    if not is_integer(width) or not least <= width <= most:
        raise BadNumber(least, most)
    fall = greatest_fall(standing)
    if fall is None:
        return standing
    # Between the ends of a greatest fall all heights come about that the steps need.
    level = max(0, height_at(standing, fall[2]) + width)
    return end_told_by(standing, level, _kept_down_to(standing, level, level - width))


def _kept_down_to(standing, level, lowest):
    """Return how many steps of each even gap are left that go down from a level to the lowest height."""
    found = []
    height = level
    for start, width in even_gaps(standing):
        goal = max(start - width, lowest)
        kept = height - goal if goal < height <= start else 0
        found.append(kept)
        height -= kept
    return found
