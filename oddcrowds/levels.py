"""Where heights come about, found gap by gap."""

from oddcrowds.heights import corners
from oddcrowds.words import is_integer


def places_at(standing, height):
    """Return the ascending list of all integers at which a height, which may be anything, comes about."""
    if not is_integer(height):
        return []
    ends = corners(standing)
    found = [place for place, own in ends[:1] if own == height]
    for (left, start), (_, goal) in zip(ends, ends[1:]):
        # The left end of a gap was looked at with the gap before it.
        if height != start and min(start, goal) <= height <= max(start, goal):
            found.append(left + abs(height - start))
    return found


def least_height(standing):
    """Return the pair (height, place) of the least height and the least integer with it, None for nobody."""
    return min([(height, place) for place, height in corners(standing)], default=None)


def count_above(standing, height):
    """Return how many integers from the first place to the last one have a height of at least this one."""
    heights = [own for _, own in corners(standing)]
    many = len([own for own in heights[:1] if own >= height])
    for start, goal in zip(heights, heights[1:]):
        # These are the heights in the gap but for its left end, which was counted with the gap before it.
        low = min(start + 1, goal)
        high = max(start - 1, goal)
        many += max(0, high - max(height, low) + 1)
    return many
