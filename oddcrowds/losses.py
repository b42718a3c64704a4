"""What the gaps of a standing lose and keep on the way to another one."""

from oddcrowds.gaps import gaps
from oddcrowds.standings import crowd_names, places_in_order


def broken_pair(one, other):
    """Return the names of two people who break the order, None if other is in order with one.

    They are neighbours in line order: if no neighbours break it, the others do not either.
    """
    rows = sorted(zip(places_in_order(one), places_in_order(other), one.names()), key=lambda row: row[0])
    for (place, goal, name), (next_place, next_goal, next_name) in zip(rows, rows[1:]):
        if not 0 <= next_goal - goal <= next_place - place:
            return (name, next_name)
    return None


class Losses:
    """How many steps each gap of one keeps and loses, and how far the first place moves to the right.

    This is asked for where other is in order with one. A sign is 1 for an odd gap and -1 for an even one.
    """

    def __init__(self, one, other):
        stretches = gaps(one)
        places = one.places()
        goals = [other.place(name) for name in crowd_names(one)]
        self.signs = [1 if kind == "odd" else -1 for _, _, kind in stretches]
        self.kept = [right - left for left, right in zip(goals, goals[1:])]
        self.lost = [width - kept for (_, width, _), kept in zip(stretches, self.kept)]
        self.moved = goals[0] - places[0] if places else 0

    def odd_lost(self):
        """Return how many steps the odd gaps lose."""
        return sum([lost for lost, sign in zip(self.lost, self.signs) if sign == 1])

    def even_lost(self):
        """Return how many steps the even gaps lose."""
        return sum([lost for lost, sign in zip(self.lost, self.signs) if sign == -1])

    def heights(self):
        """Return the heights at all places if only the steps that are lost counted."""
        found = [0]
        for lost, sign in zip(self.lost, self.signs):
            found.append(found[-1] + sign * lost)
        return found
