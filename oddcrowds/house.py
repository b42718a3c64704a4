"""A house of people who come, go, step, call and get or lose a voice."""

from oddcrowds.acts import state_after
from oddcrowds.choosing import callers_on
from oddcrowds.errors import BadAct, BadStanding, NothingDone, UnknownName
from oddcrowds.goals import left_to, wastes
from oddcrowds.meeting import meeting_place
from oddcrowds.parting import left_calls
from oddcrowds.standings import Standing
from oddcrowds.words import is_word

MOST_DONE = 120


class House:
    """A standing and perhaps a goal, which acts change, with all that was done."""

    def __init__(self, standing):
        if not isinstance(standing, Standing):
            raise BadStanding(())
        # The first state, and the one behind each done act.
        self._states = [(standing, None)]
        self._done_acts = []
        self._undone_acts = []
        self._marks = {}

    def standing(self):
        """Return the present standing."""
        return self._states[-1][0]

    def goal(self):
        """Return the goal, None if there is none."""
        return self._states[-1][1]

    def state(self):
        """Return the pair of the present standing and the goal."""
        return self._states[-1]

    def do(self, act):
        """Do an act and return the number of done acts."""
        return self.tried([act])

    def undo(self):
        """Undo the last done act and return the number of done acts."""
        if not self._done_acts:
            raise NothingDone()
        self._undone_acts = [self._done_acts[-1], *self._undone_acts]
        self._done_acts = self._done_acts[:-1]
        self._states = self._states[:-1]
        return len(self._done_acts)

    def redo(self):
        """Do the first undone act again and return the number of done acts."""
        if not self._undone_acts:
            raise NothingDone()
        act = self._undone_acts[0]
        self._states = [*self._states, state_after(self.state(), act)]
        self._done_acts = [*self._done_acts, act]
        self._undone_acts = self._undone_acts[1:]
        return len(self._done_acts)

    def done(self):
        """Return the list of the done acts."""
        return list(self._done_acts)

    def undone(self):
        """Return the list of the undone acts in the sequence in which redoing does them."""
        return list(self._undone_acts)

    def _states_behind(self, acts):
        """Return the list of the states behind each act of a list, done one after the other."""
        found = []
        state = self.state()
        for act in acts:
            state = state_after(state, act)
            if len(self._done_acts) + len(found) >= MOST_DONE:
                raise BadAct("full")
            found.append(state)
        return found

    def tried(self, acts):
        """Do all acts of a list, or none of them, and return the number of done acts."""
        states = self._states_behind(acts)
        if states:
            self._states = [*self._states, *states]
            self._done_acts = [*self._done_acts, *acts]
            self._undone_acts = []
        return len(self._done_acts)

    def would(self, acts):
        """Return the state behind all acts of a list, and change nothing."""
        states = [self.state(), *self._states_behind(acts)]
        return states[-1]

    def made(self):
        """Return the number of calls of all done acts."""
        return self._calls_from(0)

    def _calls_from(self, number):
        """Return the number of calls of all done acts from the one with a number on."""
        return sum([act[2] for act in self._done_acts[number:] if act[0] == "call"])

    def meets(self):
        """Return the place at which all will be together, None if the number of voices is even."""
        return meeting_place(self.standing()) if self.standing().voices() % 2 == 1 else None

    def parts(self):
        """Return how many calls there would be until nobody can call, None if the number of voices is odd."""
        return left_calls(self.standing()) if self.standing().voices() % 2 == 0 else None

    def least_left(self):
        """Return the least number of calls to the goal, None without a goal."""
        return None if self.goal() is None else left_to(self.standing(), self.goal())[0]

    def most_left(self):
        """Return the greatest number of calls to the goal, None without a goal."""
        return None if self.goal() is None else left_to(self.standing(), self.goal())[1]

    def early_waste(self):
        """Return by how much the calls since the goal was set have made the fewest calls more, None without a goal."""
        return None if self.goal() is None else self._wastes()[0]

    def late_waste(self):
        """Return by how much the calls since the goal was set have made the most calls fewer, None without a goal."""
        return None if self.goal() is None else self._wastes()[1]

    def _wastes(self):
        number = max([k for k, act in enumerate(self._done_acts, start=1) if act[0] == "goal"])
        start, goal = self._states[number]
        return wastes(start, self._calls_from(number), self.standing(), goal)

    def callers_on(self):
        """Return the list of the callers that lead on to the goal, from left to right, None without a goal."""
        return None if self.goal() is None else callers_on(self.standing(), self.goal())

    def keep(self, name):
        """Keep the present standing under a name, which may be anything, in the place of what it had."""
        if not is_word(name):
            raise UnknownName(name)
        self._marks[name] = self.standing()

    def marks(self):
        """Return the list of the names of the marks, in the order in which they first were kept."""
        return list(self._marks)

    def marked(self, name):
        """Return the standing that is kept under a name, which may be anything."""
        # Only a word may be looked up: a name that is passed may be a list, say.
        if not is_word(name) or name not in self._marks:
            raise UnknownName(name)
        return self._marks[name]

    def left_to_mark(self, name):
        """Return the pair of the least and the greatest number of calls from the present standing to a mark."""
        return left_to(self.standing(), self.marked(name))

    def twin(self):
        """Return an equal house, with the same past, that goes its own way."""
        house = House(self._states[0][0])
        house._states = list(self._states)
        house._done_acts = list(self._done_acts)
        house._undone_acts = list(self._undone_acts)
        house._marks = dict(self._marks)
        return house

    def __eq__(self, other):
        return isinstance(other, House) and self._past() == other._past()

    def _past(self):
        return (self._states[0][0], self._done_acts, self._undone_acts, list(self._marks.items()))
