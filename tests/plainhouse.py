"""A plain house: states and words of acts found anew each time, without the package."""

import plain
from values import words

MEMBERS = [("call", 3), ("come", 2), ("go", 2), ("step", 3), ("voice", 2), ("goal", 2)]
FAR = 10 ** 30


def is_integer(value):
    return isinstance(value, int) and value is not True and value is not False


def is_person(value):
    letters = "abcdefghijklmnopqrstuvwxyz"
    return (isinstance(value, tuple) and len(value) == 3 and isinstance(value[0], str) and 1 <= len(value[0]) <= 12
            and value[0][0] in letters and all(sign in letters + "0123456789" for sign in value[0])
            and is_integer(value[1]) and is_integer(value[2]) and value[2] in (0, 1))


def leads(people, other):
    return plain.lead_numbers(people, other) != []


def names_of(people):
    return [name for name, _, _ in people]


def is_name(people, value):
    return isinstance(value, str) and value in names_of(people)


def word(people, goal, act):
    """The word that tells why a value is no act, None if it is one; people and goal are lists, goal perhaps None."""
    if not isinstance(act, tuple) or len(act) == 0 or not isinstance(act[0], str) or (act[0], len(act)) not in MEMBERS:
        return "form"
    if act[0] == "call":
        if not is_name(people, act[1]):
            return "name"
        if not is_integer(act[2]) or act[2] < 1:
            return "times"
        behind = plain.behind_row(people, act[1], min(act[2], 10 ** 4))
        if behind is None:
            return "calls"
        return "goal" if goal is not None and not leads(behind, goal) else None
    if act[0] == "goal":
        if act[1] is None:
            return None
        if not isinstance(act[1], tuple) or len(act[1]) != len(people) or not all(is_integer(at) for at in act[1]):
            return "places"
        return None if leads(people, with_places(people, act[1])) else "lead"
    if goal is not None:
        return "goal"
    if act[0] == "come" and (not is_person(act[1]) or act[1][0] in names_of(people)):
        return "person"
    if act[0] != "come" and not is_name(people, act[1]):
        return "name"
    if act[0] == "step" and (not is_integer(act[2]) or act[2] == 0):
        return "by"
    if act[0] in ("come", "step"):
        place = act[1][1] if act[0] == "come" else plain.place_of(people, act[1]) + act[2]
        if not -FAR <= place <= FAR:
            return "far"
    return "many" if act[0] == "come" and len(people) >= 40 else None


def with_places(people, places):
    return [(name, place, voice) for (name, _, voice), place in zip(people, places)]


def after(people, goal, act):
    """The people and the goal behind an act."""
    if act[0] == "call":
        return plain.behind_row(people, act[1], act[2]), goal
    if act[0] == "goal":
        return people, None if act[1] is None else with_places(people, act[1])
    if act[0] == "come":
        return people + [act[1]], None
    if act[0] == "go":
        return [person for person in people if person[0] != act[1]], None
    by = act[2] if act[0] == "step" else 0
    turned = act[0] == "voice"
    return [(name, place + by, voice ^ turned) if name == act[1] else (name, place, voice)
            for name, place, voice in people], None


def random_act(lot, people, goal):
    """An act, perhaps one that is refused."""
    names = (names_of(people) or ["a"]) + ["eve"]
    name = lot.choice(names)
    kind = lot.choice(["call"] * 6 + ["come", "go", "step", "voice", "goal", "goal", "goal"])
    if kind == "call":
        callers = plain.callers(people)
        if callers and lot.randrange(4):
            name = lot.choice(callers)
        return (kind, name, lot.choice([1, 1, 1, 2, 3, 0]))
    if kind == "come":
        free = [word for word in words() if word not in names]
        return (kind, (lot.choice(free + names), lot.randrange(-4, 9), lot.randrange(2)))
    if kind == "step":
        return (kind, name, lot.choice([-2, -1, 0, 1, 2]))
    if kind == "goal":
        if lot.randrange(3) == 0:
            return (kind, None)
        behind = people
        for _ in range(lot.randrange(8)):
            if plain.callers(behind):
                behind = plain.called(behind, lot.choice(plain.callers(behind)))
        places = [place for _, place, _ in behind]
        if lot.randrange(5) == 0:
            places = [place + 1 for place in places]
        return (kind, tuple(places))
    return (kind, name)
