"""Whether one standing leads to another one if every crowd may call, and by how many calls."""

from oddcrowds.allloud import free_numbers_at
from oddcrowds.freescripts import free_script, rows_of_pieces
from oddcrowds.leading import ask_like_people
from oddcrowds.losses import Losses, broken_pair
from oddcrowds.sharings import Sharings, over_in
from oddcrowds.words import is_integer


def free_lead_numbers(one, other):
    """Return the ascending list of the numbers of calls by which one freely leads to other."""
    ask_like_people(one, other)
    if not one.places():
        return [0]
    if other.is_together():
        numbers = free_numbers_at(one, other.places()[0])
        return [] if numbers is None else list(range(numbers[0], numbers[1] + 1))
    if broken_pair(one, other) is not None:
        return []
    return sorted(Sharings(Losses(one, other)).last_states())


def freely_leads(one, other):
    """Tell whether one freely leads to other."""
    return free_lead_numbers(one, other) != []


def free_lead_script(one, other, calls):
    """Return a free script with just so many calls that leads from one to other, None if there is none."""
    if calls not in free_lead_numbers(one, other) or not is_integer(calls):
        # True is no number of calls, though Python takes it for 1.
        return None
    if not one.places():
        return []
    if other.is_together():
        return free_script(one, other.places()[0], calls)
    sharings = Sharings(Losses(one, other))
    pieces = sharings.pieces(sharings.last_states()[calls])
    left, right = pieces[0], pieces[-1]
    return rows_of_pieces(one, pieces, over_in(left[0], left[1]), over_in(right[0], right[1]))
