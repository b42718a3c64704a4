"""Fall tables: at how many calls of a history the last steps of which gaps fall together."""

from math import factorial

from oddcrowds.calls import called
from oddcrowds.gaps import gaps
from oddcrowds.leading import ask_like_people
from oddcrowds.losses import Losses, broken_pair
from oddcrowds.standings import crowd_names
from oddcrowds.words import is_integer


def spans_along(one, history):
    """Return the list of the spans of all calls that the names of a tuple tell, beginning at one."""
    left = [width for _, width, _ in gaps(one)]
    places = one.places()
    found = []
    for name in history:
        span = _span_around(left, places.index(one.place(name)))
        left = [steps - 1 if gap in span else steps for gap, steps in enumerate(left)]
        found.append(span)
    return found


def _span_around(left, crowd):
    """Return the pair of the nearest gaps with steps left on both sides of a crowd, which is told as it was at first.

    Where there is none on the left side, -1 stands for it; on the right side, the number of all gaps.
    """
    on_left = [gap for gap in range(crowd) if left[gap] > 0]
    on_right = [gap for gap in range(crowd, len(left)) if left[gap] > 0]
    return (max(on_left, default=-1), min(on_right, default=len(left)))


def fall_table(one, history):
    """Return the fall table of the calls that the names of a tuple tell, beginning at one."""
    many = {}
    for span in spans_along(one, history):
        many[span] = many.get(span, 0) + 1
    return [(left, right, many[(left, right)]) for left, right in sorted(many)]


def judge_table(one, other, value):
    """Return None if a value, which may be anything, is the fall table of a history; else what is wrong."""
    ask_like_people(one, other)
    if not _has_form(value):
        return ("form",)
    if broken_pair(one, other) is not None:
        return ("order",)
    losses = Losses(one, other)
    faults = [_wrong_span(losses, one.voices(), value), _wrong_sum(losses, value), _wrong_pair(value),
              _wrong_kept(losses, value), _wrong_place(losses, value)]
    for fault in faults:
        if fault is not None:
            return fault
    return None


def _has_form(value):
    if not isinstance(value, (list, tuple)) or not all([_is_row(row) for row in value]):
        return False
    spans = [(left, right) for left, right, _ in value]
    return all([span < following for span, following in zip(spans, spans[1:])])


def _is_row(row):
    return isinstance(row, tuple) and len(row) == 3 and all([is_integer(number) for number in row]) and row[2] >= 1


def _wrong_span(losses, voices, table):
    """Return the fault of the first row whose gaps do not lose steps at one call, None if there is none."""
    for k, (left, right, _) in enumerate(table):
        if not _can_fall(losses.signs, voices, left, right):
            return ("span", k)
    return None


def _can_fall(signs, voices, left, right):
    many = len(signs)
    if left == -1:
        return 0 <= right < many and signs[right] == 1
    if not 0 <= left < many:
        return False
    if right == many:
        # The last crowd is loud if its gap is of the kind that the voices left of it tell.
        return signs[left] == (-1 if voices % 2 == 1 else 1)
    return left < right < many and signs[left] != signs[right]


def _wrong_sum(losses, table):
    """Return the fault of the first gap that loses another number of steps, None if there is none."""
    for gap, lost in enumerate(losses.lost):
        if sum([many for left, right, many in table if gap in (left, right)]) != lost:
            return ("sum", gap)
    return None


def _wrong_pair(table):
    """Return the fault of the first two rows that cross, None if there are none."""
    for k, (left, right, _) in enumerate(table):
        # Rows ascend, so a row that begins within an earlier one can only end behind it.
        crossing = [at for at, (start, end, _) in enumerate(table) if left < start < right < end]
        if crossing:
            return ("cross", k, crossing[0])
    return None


def _wrong_kept(losses, table):
    """Return the fault of the first row with a kept gap between its gaps, None if there is none."""
    for k, (left, right, _) in enumerate(table):
        if any([left < gap < right for gap, kept in enumerate(losses.kept) if kept > 0]):
            return ("kept", k)
    return None


def _wrong_place(losses, table):
    """Return the fault of calls that move the first place elsewhere, None if they do not."""
    moved = sum([many for left, _, many in table if left >= 0])
    return None if moved == losses.moved else ("place",)


def count_with(one, other, table):
    """Return how many histories from one to other have a table, 0 if it is the table of none."""
    if judge_table(one, other, table) is not None:
        return 0
    divisor = 1
    for row in table:
        # These are the calls of this row and of all other ones within it, which come ahead of its own.
        within = sum([many for left, right, many in table if row[0] <= left and right <= row[1]])
        divisor = divisor * (factorial(within) // factorial(within - row[2]))
    return factorial(sum([many for _, _, many in table])) // divisor


def table_history(one, other, table):
    """Return, as a tuple, a history from one to other that has a table, None if it is the table of none."""
    if judge_table(one, other, table) is not None:
        return None
    names = crowd_names(one)
    history = []
    behind = one
    # A row that lies within another one is shorter, and its calls come first.
    for left, _, many in sorted(table, key=lambda row: row[1] - row[0]):
        for _ in range(many):
            history.append(behind.at(behind.place(names[left + 1]))[0])
            behind = called(behind, names[left + 1])
    return tuple(history)
