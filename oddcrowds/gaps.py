"""The gaps of a standing and their kinds."""

from oddcrowds.standings import placed, places_in_order


def gaps(standing):
    """Return the list of the gaps, as triples (left, width, kind), from left to right."""
    voices_at = voices_by_place(standing)
    places = sorted(voices_at)
    found = []
    voices = 0
    for left, right in zip(places, places[1:]):
        voices += voices_at[left]
        kind = "odd" if voices % 2 == 1 else "even"
        found.append((left, right - left, kind))
    return found


def voices_by_place(standing):
    """Return the dict from each place to the number of voices there."""
    voices_at = {}
    for _, place, voice in standing.people():
        voices_at[place] = voices_at.get(place, 0) + voice
    return voices_at


def odd_sum(standing):
    """Return the sum of the widths of all odd gaps."""
    return _sum_of_kind(standing, "odd")


def even_sum(standing):
    """Return the sum of the widths of all even gaps."""
    return _sum_of_kind(standing, "even")


def _sum_of_kind(standing, kind):
    return sum([width for _, width, own_kind in gaps(standing) if own_kind == kind])


def with_widths(standing, moved, widths):
    """Return the standing whose first place has moved so far to the right, and whose gaps have become so wide.

    The widths are those of all gaps of the given standing, also 0.
    """
    places = standing.places()
    new_place = {place: places[0] + moved + sum(widths[:k]) for k, place in enumerate(places)}
    return placed(standing, [new_place[place] for place in places_in_order(standing)])
