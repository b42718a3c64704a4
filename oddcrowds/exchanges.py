"""Which calls that follow each other can be exchanged, and how histories come of each other by exchanges."""

from oddcrowds.calls import callers
from oddcrowds.falltables import fall_table, spans_along


def can_exchange(standing, name, second):
    """Tell whether two names, which may be anything, are those of two callers that can be exchanged."""
    found = callers(standing)
    if name not in found or second not in found:
        return False
    return abs(standing.place(name) - standing.place(second)) > 1


def are_alike(one, first, second):
    """Tell whether two histories from one lead to the same standing and are exchange-alike."""
    # Histories with the same table lead to the same standing: it tells what each gap loses, and who goes how far.
    return fall_table(one, first) == fall_table(one, second)


def exchange_path(one, first, second):
    """Return a list of numbers of exchanges that lead the first history to the second one, None if there is none."""
    if not are_alike(one, first, second):
        return None
    path = []
    spans = spans_along(one, first)
    for at, span in enumerate(spans_along(one, second)):
        # All calls within this one stand further left already, so it can come ahead of all others.
        found = at + spans[at:].index(span)
        path.extend(list(range(found - 1, at - 1, -1)))
        spans = [*spans[:at], span, *spans[at:found], *spans[found + 1:]]
    return path
