"""What scripts cost if calls of the first crowd, of crowds between and of the last one have prices."""

from oddcrowds.leading import calls_of_first
from oddcrowds.leadscripts import script_with, shares_of_rows
from oddcrowds.losses import Losses


def price_of(standing, script, prices):
    """Return the price of a script."""
    return sum([_price_of_share(share, prices) for share in shares_of_rows(standing, script)])


def _price_of_share(share, prices):
    return sum([calls * price for calls, price in zip(share, prices)])


def lead_prices(one, other, prices):
    """Return the pair of the least and the greatest price of scripts from one to other."""
    fewest, most = calls_of_first(one, other)
    # The price goes by equal steps from the one number to the other.
    found = sorted([_price_with(one, other, first, prices) for first in (fewest, most)])
    return (found[0], found[1])


def _price_with(one, other, first, prices):
    """Return the price of each script from one to other whose first crowd makes so many calls."""
    losses = Losses(one, other)
    odds = losses.odd_lost()
    evens = losses.even_lost()
    if one.voices() % 2 == 1:
        return _price_of_share((first, odds - first, evens - odds + first), prices)
    return _price_of_share((first, evens, odds - evens - first), prices)


def cheapest_script(one, other, prices):
    """Return a script from one to other with the least price."""
    fewest, most = calls_of_first(one, other)
    cheaper = _price_with(one, other, most, prices) < _price_with(one, other, fewest, prices)
    return script_with(one, other, most if cheaper else fewest)
