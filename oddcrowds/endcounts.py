"""How many ends have one width, and how many have one first place."""

from oddcrowds.ends import EndCounts
from oddcrowds.gaps import odd_sum
from oddcrowds.parting import ask_even_voices


def counts_by_width(standing):
    """Return the list of the pairs (width, how many) of all widths of ends, ascending."""
    ask_even_voices(standing)
    counts = EndCounts(standing)
    found = {}
    for level in counts.levels():
        for width, many in counts.by_width(level).items():
            found[width] = found.get(width, 0) + many
    return sorted(found.items())


def counts_by_place(standing):
    """Return the list of the pairs (place, how many) of all first places of ends, ascending."""
    ask_even_voices(standing)
    places = standing.places()
    if not places:
        return []
    counts = EndCounts(standing)
    # The first place goes one step right at each call but those of the first crowd.
    return [(places[0] + odd_sum(standing) - level, counts.at_level(level)) for level in reversed(counts.levels())]
