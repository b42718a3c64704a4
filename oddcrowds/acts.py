"""Acts, which lead one state of a house to another one.

A state is a pair (standing, goal), goal being None without a goal.
"""

from oddcrowds.calls import can_call
from oddcrowds.errors import BadAct
from oddcrowds.leading import leads
from oddcrowds.scripts import behind_row
from oddcrowds.standings import moved_person, placed, voiced, with_person, without_person, wrong_in_person
from oddcrowds.words import is_integer, is_number

# How many members an act with this first word has.
MEMBERS = {"call": 3, "come": 2, "go": 2, "step": 3, "voice": 2, "goal": 2}
MOST_PEOPLE = 40
FURTHEST = 10 ** 30


def act_word(state, act):
    """Return the word that tells why a value, which may be anything, is no act at a state; None if it is one."""
    if not isinstance(act, tuple) or not act or not isinstance(act[0], str) or MEMBERS.get(act[0]) != len(act):
        return "form"
    if act[0] == "call":
        return _word_of_call(state, act)
    if act[0] == "goal":
        return _word_of_goal(state, act)
    if state[1] is not None:
        return "goal"
    if act[0] == "come":
        return _word_of_come(state, act)
    return _word_of_change(state, act)


def _word_of_call(state, act):
    standing, goal = state
    _, name, times = act
    if not standing.has_name(name):
        return "name"
    if not is_number(times) or times == 0:
        return "times"
    behind = behind_row(standing, (name, times), can_call)
    if behind is None:
        return "calls"
    return "goal" if goal is not None and not leads(behind, goal) else None


def _word_of_goal(state, act):
    standing, _ = state
    _, places = act
    if places is None:
        return None
    if not isinstance(places, tuple) or len(places) != len(standing.names()):
        return "places"
    if not all([is_integer(place) for place in places]):
        return "places"
    return None if leads(standing, placed(standing, places)) else "lead"


def _word_of_come(state, act):
    standing, _ = state
    _, person = act
    if wrong_in_person(person, {name: True for name in standing.names()}) is not None:
        return "person"
    if abs(person[1]) > FURTHEST:
        return "far"
    return "many" if len(standing.names()) >= MOST_PEOPLE else None


def _word_of_change(state, act):
    standing, _ = state
    if not standing.has_name(act[1]):
        return "name"
    if act[0] != "step":
        return None
    if not is_integer(act[2]) or act[2] == 0:
        return "by"
    return "far" if abs(standing.place(act[1]) + act[2]) > FURTHEST else None


def state_after(state, act):
    """Return the state to which an act leads."""
    word = act_word(state, act)
    if word is not None:
        raise BadAct(word)
    standing, goal = state
    if act[0] == "call":
        return (behind_row(standing, act[1:], can_call), goal)
    if act[0] == "goal":
        return (standing, None if act[1] is None else placed(standing, act[1]))
    return (_changed(standing, act), None)


def _changed(standing, act):
    """Return the standing behind an act that can be done only without a goal."""
    if act[0] == "come":
        return with_person(standing, act[1])
    if act[0] == "go":
        return without_person(standing, act[1])
    if act[0] == "step":
        return moved_person(standing, act[1], standing.place(act[1]) + act[2])
    return voiced(standing, act[1], 1 - standing.voice(act[1]))
