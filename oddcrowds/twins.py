"""Ends that two standings have in common."""

from oddcrowds.errors import UnlikePeople
from oddcrowds.gaps import odd_sum
from oddcrowds.parting import ask_even_voices, last_height
from oddcrowds.standings import are_like, placed


def has_common_end(one, other):
    """Tell whether there is a standing that is an end of both."""
    return common_end(one, other) is not None


def common_end(one, other):
    """Return a standing that is an end of both, its people in the order of one, None if there is none."""
    ask_even_voices(one)
    if not are_like(one, other):
        raise UnlikePeople()
    people = _in_common_order(one, other)
    if not people:
        return one
    _, first, second, _ = people[0]
    ahead = odd_sum(one) + first - odd_sum(other) - second
    level = max(0, ahead)
    kept = _kept_steps(people, level, ahead)
    if level - sum(kept) > min(last_height(one), last_height(other) + ahead):
        return None
    return _with_steps(one, people, first + odd_sum(one) - level, kept)


def _in_common_order(one, other):
    """Return (name, place in one, place in other, voice) of all people, in a sequence that ascends in both."""
    rows = [(place, other.place(name), name, voice) for name, place, voice in one.people()]
    rows = sorted(rows, key=lambda row: (row[0], row[1]))
    return [(name, first, second, voice) for first, second, name, voice in rows]


def _kept_steps(people, level, ahead):
    """Return how many steps are left between each two neighbours, from the level on as many as both standings let.

    The heights are those in one, and those in other with what is added to compare the two.
    """
    found = []
    height, first_height, second_height, voices = level, 0, ahead, 0
    for (_, first, second, voice), (_, next_first, next_second, _) in zip(people, people[1:]):
        voices += voice
        sign = 1 if voices % 2 == 1 else -1
        first_end = first_height + sign * (next_first - first)
        second_end = second_height + sign * (next_second - second)
        lowest = max(first_end, second_end)
        goes_down = sign == -1 and lowest < height <= min(first_height, second_height)
        found.append(height - lowest if goes_down else 0)
        height -= found[-1]
        first_height, second_height = first_end, second_end
    return found


def _with_steps(one, people, first, kept):
    """Return the standing in which just these steps are left between neighbours, and the first place is this one."""
    new_place = {}
    reached = first
    for (name, _, _, _), steps in zip(people, [*kept, 0]):
        new_place[name] = reached
        reached += steps
    return placed(one, [new_place[name] for name in one.names()])
