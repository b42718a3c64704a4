"""Plain ways for free calls, histories, fall tables, exchanges and wishes, call by call, without the package."""

import itertools

import plain


def lively_people(lot, most, wide):
    """Up to so many people, half of the time at least half as many, nearly all with a voice."""
    people = plain.random_people(lot, most, wide)
    while lot.randrange(2) and len(people) < most // 2 + 1:
        people = plain.random_people(lot, most, wide)
    if len(people) <= most // 2:
        return people
    return [(name, place, 1 if lot.randrange(6) else voice) for name, place, voice in people]


def crowds(people):
    """The first person of each crowd, from left to right."""
    places = sorted({place for _, place, _ in people})
    return [[name for name, at, _ in people if at == place][0] for place in places]


def free_callers(people):
    return [] if plain.together(people) else crowds(people)


def free_behind_row(people, name, times):
    """The people behind so many free calls, made one by one, or None if one of them cannot be made."""
    for _ in range(times):
        if plain.together(people):
            return None
        people = plain.called(people, name)
    return people


def free_numbers_from(people):
    """The dict from the people of all standings that are freely reached to the set of the numbers of calls."""
    level = {tuple(people)}
    found = {}
    calls = 0
    while level:
        for row in level:
            found.setdefault(row, set()).add(calls)
        level = {tuple(plain.called(row, name)) for row in level for name in free_callers(row)}
        calls += 1
    return found


def histories_from(people, callers_of):
    """The dict from the people of all standings that are reached to the list of all histories, in order.

    callers_of is plain.callers or free_callers.
    """
    found = {tuple(people): [()]}
    for name in callers_of(people):
        for row, histories in histories_from(tuple(plain.called(people, name)), callers_of).items():
            found.setdefault(row, []).extend((name,) + history for history in histories)
    return found


def by_calls(histories):
    """The pairs (calls, how many) of a list of histories, by the calls ascending."""
    numbers = [len(history) for history in histories]
    return [(calls, numbers.count(calls)) for calls in sorted(set(numbers))]


def spans(people, history):
    """The spans of the calls of a history, told by what crowds of the first standing stand beside each caller."""
    first = sorted({place for _, place, _ in people})
    crowd_of = {name: first.index(place) for name, place, _ in people}
    found = []
    for name in history:
        at = plain.place_of(people, name)
        crowd = [crowd_of[own] for own, place, _ in people if place == at]
        found.append((min(crowd) - 1, max(crowd)))
        people = plain.called(people, name)
    return found


def table(people, history):
    """The fall table of a history."""
    found = spans(people, history)
    return [(left, right, found.count((left, right))) for left, right in sorted(set(found))]


def exchangeable(people, name, second):
    """Whether two different callers can still call, each behind the call of the other one, and lead to the same."""
    if name == second or name not in plain.callers(people) or second not in plain.callers(people):
        return False
    ways = [plain.behind_row(plain.called(people, own), other, 1) for own, other in [(name, second), (second, name)]]
    return None not in ways and ways[0] == ways[1]


def exchanged(people, history):
    """All histories that come of one by one exchange, each with the number of the exchange."""
    found = []
    for k, (name, second) in enumerate(zip(history, history[1:])):
        if exchangeable(people, name, second):
            found.append((k, history[:k] + (second, name) + history[k + 2:]))
        people = plain.called(people, name)
    return found


def all_exchanged(people, history):
    """All histories that come of one by exchanges, again and again, itself among them."""
    found = {history}
    waiting = [history]
    while waiting:
        for _, other in exchanged(people, waiting.pop()):
            if other not in found:
                found.add(other)
                waiting.append(other)
    return found


def meets(people):
    """Where people meet, found call by call, None if the number of voices is even."""
    if sum(voice for _, _, voice in people) % 2 == 0:
        return None
    while not plain.together(people):
        people = plain.called(people, plain.callers(people)[0])
    return people[0][1]


def costs_of_steps(people, most):
    """The dict from each place to the least number of steps by which people meet there, each going at most so far."""
    found = {}
    for steps in itertools.product(range(-most, most + 1), repeat=len(people)):
        gone = [(name, place + by, voice) for (name, place, voice), by in zip(people, steps)]
        cost = sum(abs(by) for by in steps)
        place = meets(gone)
        found[place] = min(found.get(place, cost), cost)
    return found


def costs_of_voices(people):
    """The dict from each place to the least number of people with the other voice by which people meet there."""
    found = {}
    for changes in itertools.product((0, 1), repeat=len(people)):
        changed = [(name, place, voice ^ other) for (name, place, voice), other in zip(people, changes)]
        place = meets(changed)
        if place is not None:
            found[place] = min(found.get(place, len(people)), sum(changes))
    return found
