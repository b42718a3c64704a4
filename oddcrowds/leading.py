"""Whether one standing leads to another one, by how many calls, and papers that prove it."""

from oddcrowds.errors import NoLead, UnlikePeople
from oddcrowds.losses import Losses, broken_pair
from oddcrowds.standings import are_like
from oddcrowds.words import is_integer


def ask_like_people(one, other):
    """Raise UnlikePeople if the two standings have not like people."""
    if not are_like(one, other):
        raise UnlikePeople()


def leads(one, other):
    """Tell whether one leads to other."""
    return lead_paper(one, other)[0] == "leads"


def all_bounds(one, other):
    """Return the list of the triples (label, least, most) of all bounds, None for a number that is missing."""
    ask_like_people(one, other)
    paper = _paper_ahead_of_bounds(one, other)
    if paper is not None:
        raise NoLead(paper)
    return _bounds(one, other)


def _paper_ahead_of_bounds(one, other):
    """Return the paper that begins with "order" or with "sum", None if there is none."""
    pair = broken_pair(one, other)
    if pair is not None:
        return ("order", *pair)
    losses = Losses(one, other)
    if one.voices() % 2 == 1 and losses.moved != losses.even_lost():
        return ("sum",)
    return None


def _bounds(one, other):
    """Return the bounds where other is in order with one, and their sums fit."""
    losses = Losses(one, other)
    heights = losses.heights()
    more_odd = heights[-1]
    found = [("first", 0, None)]
    if one.voices() % 2 == 1:
        found.append(("last", more_odd, None))
    else:
        found.append(("last", None, more_odd))
        found.append(("moved", losses.odd_lost() - losses.moved, losses.odd_lost() - losses.moved))
    for gap, (start, goal) in enumerate(zip(heights, heights[1:])):
        if losses.kept[gap] > 0:
            found.append((gap, min(start, goal), max(start, goal)))
    if one.voices() % 2 == 1 and not any(losses.kept):
        # All steps are lost, so these are the heights of one itself.
        found.append(("top", None, max(heights)))
    return found


def _greatest_least(bounds):
    """Return the first one of the bounds whose least number is the greatest."""
    return max([bound for bound in bounds if bound[1] is not None], key=lambda bound: bound[1])


def _least_greatest(bounds):
    """Return the first one of the bounds whose greatest number is the least."""
    return min([bound for bound in bounds if bound[2] is not None], key=lambda bound: bound[2])


def lead_paper(one, other):
    """Return a right lead paper."""
    ask_like_people(one, other)
    paper = _paper_ahead_of_bounds(one, other)
    if paper is not None:
        return paper
    bounds = _bounds(one, other)
    first, least, _ = _greatest_least(bounds)
    second, _, most = _least_greatest(bounds)
    return ("leads", least) if least <= most else ("clash", first, second)


def calls_of_first(one, other):
    """Return the pair of the least and the greatest number of calls of the first crowd on ways from one to other."""
    paper = lead_paper(one, other)
    if paper[0] != "leads":
        raise NoLead(paper)
    bounds = _bounds(one, other)
    return (_greatest_least(bounds)[1], _least_greatest(bounds)[2])


def lead_bounds(one, other):
    """Return the pair of the least and the greatest number of calls by which one leads to other."""
    least, most = calls_of_first(one, other)
    losses = Losses(one, other)
    if one.voices() % 2 == 0:
        return (losses.odd_lost(), losses.odd_lost())
    return (losses.even_lost() + least, losses.even_lost() + most)


def judge_lead(one, other, value):
    """Tell whether a value, which may be anything, is a right lead paper."""
    ask_like_people(one, other)
    if not isinstance(value, tuple) or not value:
        return False
    if value[0] == "order":
        return len(value) == 3 and _breaks_order(one, other, value[1], value[2])
    ahead = _paper_ahead_of_bounds(one, other)
    if ahead is not None:
        return value == ahead
    bounds = _bounds(one, other)
    if value[0] == "leads":
        return len(value) == 2 and _keeps_all(bounds, value[1])
    return value[0] == "clash" and len(value) == 3 and _clash(bounds, value[1], value[2])


def _breaks_order(one, other, name, second):
    """Tell whether two names, which may be anything, are those of people who break the order, from left to right."""
    if not one.has_name(name) or not one.has_name(second):
        return False
    away = one.place(second) - one.place(name)
    return away >= 0 and not 0 <= other.place(second) - other.place(name) <= away


def _keeps_all(bounds, calls):
    """Tell whether a value, which may be anything, is a number that keeps all bounds."""
    return is_integer(calls) and _greatest_least(bounds)[1] <= calls <= _least_greatest(bounds)[2]


def _clash(bounds, first, second):
    """Tell whether the bounds with these labels, which may be anything, do not go together."""
    least = [low for label, low, _ in bounds if _is_label(first, label) and low is not None]
    most = [high for label, _, high in bounds if _is_label(second, label) and high is not None]
    return len(least) == 1 and len(most) == 1 and least[0] > most[0]


def _is_label(value, label):
    # True is no label, though Python takes it for 1.
    return (isinstance(value, str) or is_integer(value)) and value == label
