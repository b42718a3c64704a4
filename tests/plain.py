"""Plain ways to find what the package finds, integer by integer and call by call, without the package."""

import re

S = [("ann", 0, 1), ("bob", 3, 0), ("cid", 4, 1), ("dan", 9, 1)]


def random_people(lot, most, wide):
    """Up to so many people, in any order, at places that are not further apart than wide."""
    first = lot.randrange(-5, 6)
    return [("p" + str(k), first + lot.randrange(wide + 1), lot.randrange(2)) for k in range(lot.randrange(most + 1))]


def all_integers(people):
    """The integers from the first place to the last one."""
    places = [place for _, place, _ in people]
    return list(range(min(places), max(places) + 1)) if places else []


def heights(people):
    """The dict from each integer to its height."""
    found = {}
    height = 0
    for at in all_integers(people):
        found[at] = height
        voices = sum(voice for _, place, voice in people if place <= at)
        height += 1 if voices % 2 == 1 else -1
    return found


def place_of(people, name):
    return [place for own, place, _ in people if own == name][0]


def is_loud(people, name):
    centre = place_of(people, name)
    return sum(voice for _, place, voice in people if place == centre) % 2 == 1


def can_call(people, name):
    return is_loud(people, name) and len({place for _, place, _ in people}) > 1


def called(people, name):
    """The people behind the call of somebody's crowd."""
    centre = place_of(people, name)
    steps = [(place < centre) - (place > centre) for _, place, _ in people]
    return [(own, place + step, voice) for (own, place, voice), step in zip(people, steps)]


def callers(people):
    """The callers, from left to right."""
    found = []
    for at in sorted({place for _, place, _ in people}):
        first = [name for name, place, _ in people if place == at][0]
        if can_call(people, first):
            found.append(first)
    return found


def behind_row(people, name, times):
    """The people behind so many calls, made one by one, or None if one of them cannot be made."""
    for _ in range(times):
        if not can_call(people, name):
            return None
        people = called(people, name)
    return people


def numbers_from(people):
    """The dict from the people of all standings that are reached to the set of the numbers of calls."""
    level = {tuple(people)}
    found = {}
    calls = 0
    while level:
        for row in level:
            found.setdefault(row, set()).add(calls)
        level = {tuple(called(row, name)) for row in level for name in callers(row)}
        calls += 1
    return found


def wrong_place(text, form):
    """The first wrong place of a text, or None. A form tells for each state which state each lexeme leads to.

    A lexeme may be told by itself, or as "word", "number" or "positive"; the state 0 is the first one, 9 the last one.
    """
    state, place = 0, 0
    while place < len(text):
        if text[place] in " \n":
            place += 1
            continue
        lexeme = re.match("[a-z][a-z0-9]*|0|[1-9][0-9]*|[{};-]", text[place:])
        if lexeme is None:
            return place
        lexeme = lexeme.group()
        is_word = lexeme[0] in "abcdefghijklmnopqrstuvwxyz"
        if is_word and len(lexeme) > 12:
            return place
        kinds = [lexeme] + ["word"] * is_word + ["number"] * lexeme.isdigit()
        kinds += ["positive"] * (lexeme.isdigit() and lexeme != "0")
        states = [form[state][kind] for kind in kinds if kind in form[state]]
        if not states:
            return place
        state, place = states[0], place + len(lexeme)
    return None if state == 9 else len(text)
