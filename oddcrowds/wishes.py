"""How few steps or voices would have to be changed so that all meet at a wished place."""

from oddcrowds.meeting import meeting_place
from oddcrowds.standings import moved_person, voiced
from oddcrowds.sums import turn_sum
from oddcrowds.words import is_integer


def wished_steps(standing, place):
    """Return a wish paper with steps for a place that has the least cost."""
    missing = place - meeting_place(standing)
    if missing == 0:
        return ("steps", ())
    # The first voice counts as it is, and so does the last one, as their number is odd.
    voices = [name for name in standing.line() if standing.voice(name) == 1]
    return ("steps", ((voices[-1] if missing > 0 else voices[0], missing),))


def wished_voices(standing, place):
    """Return a wish paper with voices for a place that has the least cost, None if there is none."""
    names = _fewest_changes(standing).get((place, 1))
    return None if names is None else ("voices", names)


def places_by_voices(standing):
    """Return the ascending list of all places for which there is a wish paper with voices."""
    return sorted([place for place, rest in _fewest_changes(standing) if rest == 1])


def _fewest_changes(standing):
    """Return for each sum by turns, and for odd and even numbers of voices, the fewest people who have to change.

    It is a dict from pairs (sum, 1 or 0) to tuples of names.
    """
    found = {(0, 0): ()}
    for name in standing.line():
        place = standing.place(name)
        ahead = found
        found = {}
        for (by_turns, rest), names in ahead.items():
            with_voice = (by_turns + place if rest == 0 else by_turns - place, 1 - rest)
            for voice, behind in ((0, (by_turns, rest)), (1, with_voice)):
                changed = names if voice == standing.voice(name) else (*names, name)
                if behind not in found or len(changed) < len(found[behind]):
                    found[behind] = changed
    return found


def judge_wish(standing, place, value):
    """Return None if a value, which may be anything, is a wish paper for a place; else what is wrong."""
    if not _has_form(value):
        return ("form",)
    members = value[1]
    names = [member[0] for member in members] if value[0] == "steps" else list(members)
    for k, name in enumerate(names):
        if not standing.has_name(name) or name in names[:k]:
            return ("name", k)
    behind = _with_steps(standing, members) if value[0] == "steps" else _with_voices(standing, names)
    if behind.voices() % 2 == 0:
        return ("even",)
    reached = turn_sum(behind)
    return None if reached == place else ("place", reached)


def _has_form(value):
    if not isinstance(value, tuple) or len(value) != 2 or not isinstance(value[1], tuple):
        return False
    if value[0] == "steps":
        return all([_is_step(member) for member in value[1]])
    return value[0] == "voices"


def _is_step(member):
    return isinstance(member, tuple) and len(member) == 2 and is_integer(member[1]) and member[1] != 0


def _with_steps(standing, steps):
    behind = standing
    for name, by in steps:
        behind = moved_person(behind, name, behind.place(name) + by)
    return behind


def _with_voices(standing, names):
    behind = standing
    for name in names:
        behind = voiced(behind, name, 1 - behind.voice(name))
    return behind
