"""How many ends there are, and which; they are counted height by height."""

from oddcrowds.errors import TooGreat
from oddcrowds.gaps import odd_sum
from oddcrowds.heights import corners
from oddcrowds.parting import ask_even_voices, end_told_by, even_gaps, last_height

MOST_TOLD = 500


class EndCounts:
    """In how many ways even steps can be left that go down height by height from a level.

    For each even gap there is a dict from each height to the ways from there on, through this gap and those right
    of it: a dict from how many steps are left to how many ways there are.
    """

    def __init__(self, standing):
        heights = [height for _, height in corners(standing)]
        self._gaps = even_gaps(standing)
        self._highest = max(heights, default=0)
        self._lowest = min(heights, default=0)
        self._ways = [self._ways_behind_all(last_height(standing))]
        for gap in reversed(self._gaps):
            self._ways.insert(0, self._ways_ahead_of(gap, self._ways[0]))

    def _all_heights(self):
        return list(range(self._lowest, self._highest + 1))

    def _ways_behind_all(self, last):
        return {height: {0: 1} if height <= last else {} for height in self._all_heights()}

    def _ways_ahead_of(self, gap, behind):
        found = {}
        for height in self._all_heights():
            many = {}
            for kept in _choices(gap, height):
                for steps, ways in behind[height - kept].items():
                    many[steps + kept] = many.get(steps + kept, 0) + ways
            found[height] = many
        return found

    def levels(self):
        """Return the list of the levels of ends, ascending: all up to the greatest height.

        From where that height is to the last place, the heights go down by ones through all that the steps need.
        """
        return list(range(self._highest + 1))

    def by_width(self, level):
        """Return the dict from each width of ends with a level to how many there are."""
        return dict(self._ways[0][level])

    def at_level(self, level):
        """Return how many ends there are with a level."""
        return self._count(0, level)

    def _count(self, gap, height):
        return sum(self._ways[gap][height].values())

    def in_all(self):
        """Return how many ends there are."""
        return sum([self.at_level(level) for level in self.levels()])

    def end_at(self, number):
        """Return the pair (level, kept) that tells the end with a number, None if there are not so many."""
        ahead = 0
        for level in self.levels():
            many = self.at_level(level)
            if number < ahead + many:
                return (level, self._kept_at(level, number - ahead))
            ahead += many
        return None

    def _kept_at(self, level, number):
        found = []
        height = level
        left = number
        for k in range(len(self._gaps)):
            kept = 0
            while left >= self._count(k + 1, height - kept):
                left -= self._count(k + 1, height - kept)
                kept += 1
            found.append(kept)
            height -= kept
        return found

    def number_of(self, level, kept_steps):
        """Return the number of the end that is told by a level and the steps that are left."""
        number = sum([self.at_level(lower) for lower in range(level)])
        height = level
        for k, (gap, kept) in enumerate(zip(self._gaps, kept_steps)):
            number += sum([self._count(k + 1, height - fewer) for fewer in _choices(gap, height) if fewer < kept])
            height -= kept
        return number


def _choices(gap, height):
    """Return how many steps of an even gap can be left that go down from a height, ascending."""
    start, width = gap
    if start - width < height <= start:
        return list(range(height - start + width + 1))
    return [0]


def count_ends(standing):
    """Return the number of the ends."""
    ask_even_voices(standing)
    return EndCounts(standing).in_all()


def is_settled(standing):
    """Tell whether there is just one end."""
    ask_even_voices(standing)
    return odd_sum(standing) == 0


def all_ends(standing):
    """Return the list of the ends, in order."""
    ask_even_voices(standing)
    counts = EndCounts(standing)
    many = counts.in_all()
    if many > MOST_TOLD:
        raise TooGreat()
    found = []
    for number in range(many):
        level, kept = counts.end_at(number)
        found.append(end_told_by(standing, level, kept))
    return found
