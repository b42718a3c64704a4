"""Ends told by their numbers."""

from oddcrowds.ends import EndCounts
from oddcrowds.errors import NoLead, TooGreat
from oddcrowds.parting import ask_even_voices, end_told_by, telling_of


def end_at(standing, number):
    """Return the end with a number of at least 0."""
    ask_even_voices(standing)
    return _end_with(standing, EndCounts(standing), number)


def _end_with(standing, counts, number):
    told = counts.end_at(number)
    if told is None:
        raise TooGreat()
    level, kept = told
    return end_told_by(standing, level, kept)


def end_number(standing, end):
    """Return the number of an end."""
    ask_even_voices(standing)
    return _number_of(standing, EndCounts(standing), end)


def _number_of(standing, counts, end):
    told = telling_of(standing, end)
    if told is None:
        raise NoLead(None)
    level, kept = told
    return counts.number_of(level, kept)


def next_end(standing, end):
    """Return the end with the next number, None if it is the last one."""
    ask_even_voices(standing)
    counts = EndCounts(standing)
    number = _number_of(standing, counts, end) + 1
    return None if number == counts.in_all() else _end_with(standing, counts, number)


def drawn_end(standing, number):
    """Return the end whose number is the remainder of a number of at least 0, divided by the number of the ends."""
    ask_even_voices(standing)
    counts = EndCounts(standing)
    return _end_with(standing, counts, number % counts.in_all())
