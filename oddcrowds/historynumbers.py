"""Histories told by their numbers."""

from oddcrowds.errors import BadCall, TooGreat
from oddcrowds.histories import history_ways, wrong_in_history
from oddcrowds.standings import places_in_order
from oddcrowds.ways import counts_on


class Numbered:
    """The histories from one standing to another one, in order."""

    def __init__(self, one, other):
        self._start = places_in_order(one)
        self._ways = history_ways(one, other)
        self._many = {places: sum(counts.values()) for places, counts in counts_on(self._ways).items()}

    def in_all(self):
        """Return how many histories there are."""
        return self._many.get(self._start, 0)

    def history_at(self, number):
        """Return the history with a number of at least 0."""
        if number >= self.in_all():
            raise TooGreat()
        names = []
        here = self._start
        left = number
        while self._ways[here]:
            many = [self._many[behind] for _, behind in self._ways[here]]
            at = 0
            while left >= many[at]:
                left -= many[at]
                at += 1
            name, here = self._ways[here][at]
            names.append(name)
        return tuple(names)

    def number_of(self, history):
        """Return the number of a history."""
        number = 0
        here = self._start
        for name in history:
            at = [own for own, _ in self._ways[here]].index(name)
            number += sum([self._many[behind] for _, behind in self._ways[here][:at]])
            here = self._ways[here][at][1]
        return number


def history_at(one, other, number):
    """Return the history with a number of at least 0."""
    return Numbered(one, other).history_at(number)


def history_number(one, other, value):
    """Return the number of a history."""
    _ask_history(one, other, value)
    return Numbered(one, other).number_of(value)


def _ask_history(one, other, value):
    """Raise BadCall if a value, which may be anything, is no history from one to other."""
    wrong = wrong_in_history(one, other, value)
    if wrong is not None:
        raise BadCall(wrong)


def next_history(one, other, value):
    """Return the history with the next number, None if it is the last one."""
    _ask_history(one, other, value)
    numbered = Numbered(one, other)
    number = numbered.number_of(value) + 1
    return None if number == numbered.in_all() else numbered.history_at(number)


def drawn_history(one, other, number):
    """Return the history whose number is the remainder of a number of at least 0, divided by how many there are.

    Return None if there are none.
    """
    numbered = Numbered(one, other)
    many = numbered.in_all()
    return None if many == 0 else numbered.history_at(number % many)
