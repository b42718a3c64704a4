"""Calls one after the other from one standing to another one, counted standing by standing.

Which calls there are is told by functions: callers_of(standing) is the list of the names of those who may call, from
left to right, called_by(standing, name) the standing behind a call, and leads_to(one, other) whether calls lead on.
"""

from oddcrowds.standings import places_in_order


def first_wrong(one, other, value, callers_of, called_by):
    """Return None if a value, which may be anything, is a tuple of names whose calls lead from one to other.

    Otherwise return 0 if it is no tuple, the number of its first member who may not call then, or, if there is no such
    member, how many members it has.
    """
    if not isinstance(value, tuple):
        return 0
    behind = one
    for k, name in enumerate(value):
        if name not in callers_of(behind):
            return k
        behind = called_by(behind, name)
    return None if behind == other else len(value)


def ways_on(one, other, callers_of, called_by, leads_to):
    """Return for each standing on the way the list of its calls that lead on, from left to right.

    A standing is told by its places, a call by a pair of a name and the places behind it. There are none if one does
    not lead to other.
    """
    ways = {}
    waiting = [one] if leads_to(one, other) else []
    while waiting:
        here = waiting.pop()
        if places_in_order(here) in ways:
            continue
        behind = [(name, called_by(here, name)) for name in callers_of(here)]
        behind = [(name, standing) for name, standing in behind if leads_to(standing, other)]
        ways[places_in_order(here)] = [(name, places_in_order(standing)) for name, standing in behind]
        waiting.extend([standing for _, standing in behind])
    return ways


def counts_on(ways):
    """Return for each standing on the way a dict from each number of calls to how many ways to the last one have it."""
    counts = {}
    # Each call makes the sum of all gaps less, so what is behind a call is counted before what is ahead of it.
    for places in sorted(ways, key=_all_steps):
        # Nothing leads on from the last standing alone.
        found = {} if ways[places] else {0: 1}
        for _, behind in ways[places]:
            for calls, many in counts[behind].items():
                found[calls + 1] = found.get(calls + 1, 0) + many
        counts[places] = found
    return counts


def _all_steps(places):
    return max(places, default=0) - min(places, default=0)


def counts_between(one, ways):
    """Return the ascending list of the pairs (calls, how many) of all ways from one, told by ways_on."""
    if not ways:
        return []
    return sorted(counts_on(ways)[places_in_order(one)].items())
