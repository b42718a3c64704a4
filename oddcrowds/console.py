"""A console, which reads lines and says what a house answers."""

from oddcrowds.acts import MEMBERS
from oddcrowds.calls import callers
from oddcrowds.errors import BadAct, BadText, NoLead, NothingDone, UnknownName, UnlikePeople
from oddcrowds.lines import read_line


def _undo(house):
    return str(house.undo())


def _redo(house):
    return str(house.redo())


def _show(house):
    return "; ".join([_person_shown(person) for person in house.standing().people()])


def _person_shown(person):
    name, place, voice = person
    return f"{name} {place} voice" if voice == 1 else f"{name} {place}"


def _or_none(number):
    return "none" if number is None else str(number)


def _made(house):
    return str(house.made())


def _meets(house):
    return _or_none(house.meets())


def _parts(house):
    return _or_none(house.parts())


def _least(house):
    return _or_none(house.least_left())


def _most(house):
    return _or_none(house.most_left())


def _early(house):
    return _or_none(house.early_waste())


def _late(house):
    return _or_none(house.late_waste())


def _callers(house):
    return " ".join(callers(house.standing()))


def _on(house):
    names = house.callers_on()
    return "none" if names is None else " ".join(names)


def _keep(house, name):
    house.keep(name)
    return str(len(house.marks()))


def _has(house, name):
    return str(house.standing().place(name))


def _to(house, name):
    try:
        least, most = house.left_to_mark(name)
    except NoLead:
        return "never"
    return f"{least} to {most}"


ANSWERS = {"undo": _undo, "redo": _redo, "show": _show, "made": _made, "meets": _meets, "parts": _parts,
           "least": _least, "most": _most, "early": _early, "late": _late, "callers": _callers, "on": _on}
ANSWERS_WITH_NAME = {"keep": _keep, "has": _has, "to": _to}


def _answer(house, said):
    """Return the answer to what a line says, as read_line tells it."""
    if said[0] in MEMBERS:
        return str(house.do(said))
    if said[0] in ANSWERS_WITH_NAME:
        answer_with_name = ANSWERS_WITH_NAME[said[0]]
        return answer_with_name(house, said[1])
    answer = ANSWERS[said[0]]
    return answer(house)


class Console:
    """Speaks for a house, as other consoles of it do."""

    def __init__(self, house):
        self._house = house

    def house(self):
        """Return the very house for which this console speaks."""
        return self._house

    def say(self, line):
        """Do what a line says and return the answer."""
        try:
            return _answer(self._house, read_line(line))
        except BadText as wrong:
            return f"no BadText {wrong.place}"
        except BadAct as refused:
            return f"no BadAct {refused.word}"
        except NothingDone:
            return "no NothingDone"
        except UnlikePeople:
            return "no UnlikePeople"
        except UnknownName:
            return "no UnknownName"
