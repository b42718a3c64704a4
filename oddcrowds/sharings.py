"""How the steps that kept gaps lose can be shared by their two sides, if every crowd may call.

A state is a pair (on_left, between) at a kept gap: how many of its steps fall on its left, and how many calls of crowds
between two others are made left of what is kept of it.
"""

from oddcrowds.pairs import most_pairs


class Sharings:
    """All sharings for the losses on the way to a standing that is in order and not together.

    For each kept gap there is a dict from its states to some state of the kept gap before it, None for the first one.
    """

    def __init__(self, losses):
        self._lost = losses.lost
        self._moved = losses.moved
        self._kept = [gap for gap, kept in enumerate(losses.kept) if kept > 0]
        self._levels = [self._first_level()]
        for left, right in zip(self._kept, self._kept[1:]):
            self._levels.append(self._level_behind(left, right))

    def _piece(self, left, right, on_right, on_left):
        """Return the steps that fall between two gaps, of which the two lose so many on their inner sides.

        It is a list of pairs (gap, steps); left may be -1, and right the number of all gaps.
        """
        found = [(left, on_right)] if left >= 0 else []
        found.extend([(gap, self._lost[gap]) for gap in range(left + 1, right)])
        if right < len(self._lost):
            found.append((right, on_left))
        return found

    def _first_level(self):
        first = self._kept[0]
        found = {}
        for on_left in range(self._lost[first] + 1):
            for between in range(most_pairs(_steps_of(self._piece(-1, first, 0, on_left))) + 1):
                found[(on_left, between)] = None
        return found

    def _level_behind(self, left, right):
        found = {}
        for state in self._levels[-1]:
            for on_left in range(self._lost[right] + 1):
                steps = _steps_of(self._piece(left, right, self._lost[left] - state[0], on_left))
                half = sum(steps) // 2
                # A piece between two kept gaps falls whole, two steps at a time.
                if sum(steps) == 2 * half and most_pairs(steps) == half:
                    found[(on_left, state[1] + half)] = state
        return found

    def _right_piece(self, state):
        last = self._kept[-1]
        return self._piece(last, len(self._lost), self._lost[last] - state[0], 0)

    def last_states(self):
        """Return the dict from each number of calls that comes about to some last state by which it does."""
        found = {}
        for state in self._levels[-1]:
            fallen = self._pairs_on_right(state)
            if 0 <= fallen <= most_pairs(_steps_of(self._right_piece(state))):
                found[sum(self._lost) - fallen - state[1]] = state
        return found

    def _pairs_on_right(self, state):
        """Return how many calls between must be made right of all kept gaps so that the first place moves as it does.

        All calls but those of the first crowd move it.
        """
        return sum(_steps_of(self._right_piece(state))) + state[1] - self._moved

    def pieces(self, state):
        """Return the pairs (piece, how many calls between) of a sharing with a last state, from left to right."""
        states = [state]
        for level in reversed(self._levels[1:]):
            states.insert(0, level[states[0]])
        on_left, between = states[0]
        found = [(self._piece(-1, self._kept[0], 0, on_left), between)]
        for k, (own, behind) in enumerate(zip(states, states[1:])):
            left, right = self._kept[k], self._kept[k + 1]
            piece = self._piece(left, right, self._lost[left] - own[0], behind[0])
            found.append((piece, behind[1] - own[1]))
        found.append((self._right_piece(state), self._pairs_on_right(state)))
        return found


def _steps_of(piece):
    return [steps for _, steps in piece]


def over_in(piece, calls):
    """Return how many steps of a piece are over behind so many calls that take two of them each."""
    return sum(_steps_of(piece)) - 2 * calls
