"""Heights, the greatest height, the greatest fall, and where crowds are loud."""

from oddcrowds.gaps import gaps, voices_by_place
from oddcrowds.words import is_integer


def height_at(standing, place):
    """Return the height at an integer from the first place to the last one, None for anything else."""
    places = standing.places()
    if not places or not is_integer(place) or not places[0] <= place <= places[-1]:
        return None
    height = 0
    for left, width, kind in gaps(standing):
        height += _rise(min(width, max(0, place - left)), kind)
    return height


def _rise(steps, kind):
    return steps if kind == "odd" else -steps


def corners(standing):
    """Return the list of the pairs (place, height) of all places, from left to right.

    Within a gap the heights go by ones in one direction, so no height is above all of these, and none below.
    """
    found = [(place, 0) for place in standing.places()[:1]]
    height = 0
    for left, width, kind in gaps(standing):
        height += _rise(width, kind)
        found.append((left + width, height))
    return found


def greatest_height(standing):
    """Return the pair (height, place) of the greatest height and the least integer with it, None for nobody."""
    best = None
    for place, height in corners(standing):
        if best is None or height > best[0]:
            best = (height, place)
    return best


def greatest_fall(standing):
    """Return the triple (fall, left, right) of the greatest fall, the least left and then right, None for nobody."""
    found = corners(standing)
    best = None
    for k, (left, height) in enumerate(found):
        for right, lower in found[k:]:
            if best is None or height - lower > best[0]:
                best = (height - lower, left, right)
    return best


def loud_places(standing):
    """Return the ascending list of the places whose crowds have an odd number of voices."""
    voices_at = voices_by_place(standing)
    return [place for place in sorted(voices_at) if voices_at[place] % 2 == 1]
