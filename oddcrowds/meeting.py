"""Where all come together if the number of voices is odd, and behind how many calls."""

from oddcrowds.errors import BadNumber, EvenVoices
from oddcrowds.gaps import even_sum, odd_sum
from oddcrowds.heights import greatest_height
from oddcrowds.sums import turn_sum
from oddcrowds.words import is_integer


def ask_odd_voices(standing):
    """Raise EvenVoices if the number of voices is even."""
    if standing.voices() % 2 == 0:
        raise EvenVoices()


def meeting_place(standing):
    """Return the place at which all come together, whoever calls."""
    ask_odd_voices(standing)
    return turn_sum(standing)


def call_numbers(standing):
    """Return the pair of the least and the greatest number of calls until all are together."""
    ask_odd_voices(standing)
    evens = even_sum(standing)
    height, _ = greatest_height(standing)
    return (max(odd_sum(standing), evens), evens + height)


def share_of(standing, calls):
    """Return how many of so many calls the first crowd, crowds between and the last one make."""
    least, most = call_numbers(standing)
    if not is_integer(calls) or not least <= calls <= most:
        raise BadNumber(least, most)
    odds = odd_sum(standing)
    evens = even_sum(standing)
    return (calls - evens, odds + evens - calls, calls - odds)
