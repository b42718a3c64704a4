"""Plain ways to find what the package finds, integer by integer and call by call, without the package."""

import re

S = [("ann", 0, 1), ("bob", 3, 0), ("cid", 4, 1), ("dan", 9, 1)]


def random_people(lot, most, wide):
    """Up to so many people, in any order, at places that are not further apart than wide."""
    first = lot.randrange(-5, 6)
    return [("p" + str(k), first + lot.randrange(wide + 1), lot.randrange(2)) for k in range(lot.randrange(most + 1))]


def all_integers(people):
    """The integers from the first place to the last one."""
    places = [place for _, place, _ in people]
    return list(range(min(places), max(places) + 1)) if places else []


def heights(people):
    """The dict from each integer to its height."""
    found = {}
    height = 0
    for at in all_integers(people):
        found[at] = height
        voices = sum(voice for _, place, voice in people if place <= at)
        height += 1 if voices % 2 == 1 else -1
    return found


def place_of(people, name):
    return [place for own, place, _ in people if own == name][0]


def is_loud(people, name):
    centre = place_of(people, name)
    return sum(voice for _, place, voice in people if place == centre) % 2 == 1


def can_call(people, name):
    return is_loud(people, name) and len({place for _, place, _ in people}) > 1


def called(people, name):
    """The people behind the call of somebody's crowd."""
    centre = place_of(people, name)
    steps = [(place < centre) - (place > centre) for _, place, _ in people]
    return [(own, place + step, voice) for (own, place, voice), step in zip(people, steps)]


def callers(people):
    """The callers, from left to right."""
    found = []
    for at in sorted({place for _, place, _ in people}):
        first = [name for name, place, _ in people if place == at][0]
        if can_call(people, first):
            found.append(first)
    return found


def behind_row(people, name, times):
    """The people behind so many calls, made one by one, or None if one of them cannot be made."""
    for _ in range(times):
        if not can_call(people, name):
            return None
        people = called(people, name)
    return people


def numbers_from(people):
    """The dict from the people of all standings that are reached to the set of the numbers of calls."""
    level = {tuple(people)}
    found = {}
    calls = 0
    while level:
        for row in level:
            found.setdefault(row, set()).add(calls)
        level = {tuple(called(row, name)) for row in level for name in callers(row)}
        calls += 1
    return found


def shares_from(people):
    """The dict from the people of all standings that are reached to the set of the shares (first, between, last)."""
    level = {tuple(people): {(0, 0, 0)}}
    found = {}
    while level:
        behind = {}
        for row, shares in level.items():
            found.setdefault(row, set()).update(shares)
            for name in callers(row):
                k = position(row, name)
                more = {share[:k] + (share[k] + 1,) + share[k + 1:] for share in shares}
                behind.setdefault(tuple(called(row, name)), set()).update(more)
        level = behind
    return found


def position(people, name):
    """0 for somebody of the first crowd, 2 for one of the last crowd, otherwise 1."""
    places = sorted({place for _, place, _ in people})
    at = places.index(place_of(people, name))
    return 0 if at == 0 else 2 if at == len(places) - 1 else 1


def gaps(people):
    """The list of the gaps (left, width, kind), from left to right."""
    places = sorted({place for _, place, _ in people})
    found = []
    for left, right in zip(places, places[1:]):
        voices = sum(voice for _, place, voice in people if place <= left)
        found.append((left, right - left, "odd" if voices % 2 == 1 else "even"))
    return found


def sum_of(people, kind):
    return sum(width for _, width, own in gaps(people) if own == kind)


def together(people):
    return len({place for _, place, _ in people}) <= 1


def width_of(people):
    places = [place for _, place, _ in people]
    return max(places) - min(places) if places else 0


def first_place(people):
    return min([place for _, place, _ in people], default=0)


def kept_steps(people, other):
    """How wide the gaps of people are for other people who are in order with them, as pairs (kind, steps)."""
    place = {name: at for name, at, _ in other}
    names = {}
    for name, at, _ in people:
        names.setdefault(at, name)
    row = [place[names[at]] for at in sorted(names)]
    return [(kind, right - left) for (_, _, kind), left, right in zip(gaps(people), row, row[1:])]


def in_order(people, other):
    """Whether other people are in order with people, two by two."""
    goal = {name: at for name, at, _ in other}
    for name, at, _ in people:
        for second, further, _ in people:
            if at <= further and not 0 <= goal[second] - goal[name] <= further - at:
                return False
    return True


def bounds(people, other):
    """The bounds as S6.3 tells them, with the heights and the sums K, where other people are in order with people."""
    odd_voices = sum(voice for _, _, voice in people) % 2 == 1
    found_heights = heights(people)
    kept = [steps for _, steps in kept_steps(people, other)]
    rows = gaps(people)
    lost = {kind: sum(width - steps for (_, width, own), steps in zip(rows, kept) if own == kind)
            for kind in ("odd", "even")}
    more = lost["odd"] - lost["even"]
    moved = lost["odd"] - (first_place(other) - first_place(people))
    found = [("first", 0, None)]
    found += [("last", more, None)] if odd_voices else [("last", None, more), ("moved", moved, moved)]
    for k, ((left, width, kind), steps) in enumerate(zip(rows, kept)):
        here = found_heights[left] - sum(own if other_kind == "odd" else -own
                                         for (_, _, other_kind), own in zip(rows[:k], kept))
        if steps > 0 and kind == "odd":
            found.append((k, here, here + width - steps))
        if steps > 0 and kind == "even":
            found.append((k, here - (width - steps), here))
    if odd_voices and not any(kept):
        found.append(("top", None, max(found_heights.values())))
    return found


def lead_numbers(people, other):
    """The list of the numbers of calls by which people lead to other people, found by the bounds, perhaps empty."""
    odd_voices = sum(voice for _, _, voice in people) % 2 == 1
    if not in_order(people, other):
        return []
    pairs = list(zip(gaps(people), kept_steps(people, other)))
    odds = sum(width - steps for (_, width, own), (_, steps) in pairs if own == "odd")
    evens = sum(width - steps for (_, width, own), (_, steps) in pairs if own == "even")
    if odd_voices and first_place(other) - first_place(people) != evens:
        return []
    rows = bounds(people, other)
    least = max(low for _, low, _ in rows if low is not None)
    most = min(high for _, _, high in rows if high is not None)
    if not odd_voices:
        return [odds] if least <= most else []
    return [evens + calls for calls in range(least, most + 1)]


def near(lot, people):
    """People who stand as these do but for a little."""
    rows = list(people)
    if rows and lot.randrange(3):
        k = lot.randrange(len(rows))
        rows[k] = (rows[k][0], rows[k][1] + lot.choice([-1, 1]), rows[k][2])
    else:
        by = lot.choice([-1, 1])
        rows = [(name, at + by, voice) for name, at, voice in rows]
    return rows


def end_key(people, end):
    """By what ends are ordered: the calls of the first crowd, and the steps that are left of the even gaps."""
    level = sum_of(people, "odd") - (first_place(end) - first_place(people))
    return (level, tuple(steps for kind, steps in kept_steps(people, end) if kind == "even"))


def ends_of(people, told):
    """The list of all ends of people, in order; told is what numbers_from tells."""
    return sorted([list(row) for row in told if not callers(row)], key=lambda end: end_key(people, end))


def with_voices(people, rest):
    """The people, of whom the first one with a voice has none then if that number is odd or even otherwise."""
    if sum(voice for _, _, voice in people) % 2 == rest:
        return people
    if not people:
        return [("p0", 3, 1)]
    name, place, voice = people[0]
    return [(name, place, 1 - voice)] + people[1:]


def wrong_place(text, form):
    """The first wrong place of a text, or None. A form tells for each state which state each lexeme leads to.

    A lexeme may be told by itself, or as "word", "number" or "positive"; the state 0 is the first one, 9 the last one.
    """
    state, place = 0, 0
    while place < len(text):
        if text[place] in " \n":
            place += 1
            continue
        lexeme = re.match("[a-z][a-z0-9]*|0|[1-9][0-9]*|[{};-]", text[place:])
        if lexeme is None:
            return place
        lexeme = lexeme.group()
        is_word = lexeme[0] in "abcdefghijklmnopqrstuvwxyz"
        if is_word and len(lexeme) > 12:
            return place
        kinds = [lexeme] + ["word"] * is_word + ["number"] * lexeme.isdigit()
        kinds += ["positive"] * (lexeme.isdigit() and lexeme != "0")
        states = [form[state][kind] for kind in kinds if kind in form[state]]
        if not states:
            return place
        state, place = states[0], place + len(lexeme)
    return None if state == 9 else len(text)
