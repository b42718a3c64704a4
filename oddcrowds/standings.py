"""Standings: people with places and voices, and what is asked of them."""

from oddcrowds.errors import BadStanding, UnknownName
from oddcrowds.words import is_integer, is_word


def wrong_in_person(person, earlier):
    """Return the path to the first wrong part within a person, None if there is none.

    The keys of earlier are the names that are taken already.
    """
    if not isinstance(person, tuple) or len(person) != 3:
        return ()
    name, place, voice = person
    if not is_word(name) or name in earlier:
        return (0,)
    if not is_integer(place):
        return (1,)
    if not is_integer(voice) or voice not in (0, 1):
        return (2,)
    return None


def wrong_part(people):
    """Return the path to the first wrong part of what should be people, None if there is none."""
    if not isinstance(people, (list, tuple)):
        return ()
    earlier = {}
    for k, person in enumerate(people):
        path = wrong_in_person(person, earlier)
        if path is not None:
            return (k, *path)
        earlier[person[0]] = True
    return None


class Standing:
    """People on a line; it never changes."""

    def __init__(self, people):
        path = wrong_part(people)
        if path is not None:
            raise BadStanding(path)
        self._people = tuple(people)
        self._by_name = {person[0]: person for person in self._people}

    def _person(self, name):
        # Only a string may be looked up: a name that is passed may be a list, say.
        if not self.has_name(name):
            raise UnknownName(name)
        return self._by_name[name]

    def people(self):
        """Return the list of the people, in the order of the standing."""
        return list(self._people)

    def names(self):
        """Return the list of the names, in the order of the standing."""
        return [person[0] for person in self._people]

    def place(self, name):
        """Return the place of a person."""
        return self._person(name)[1]

    def voice(self, name):
        """Return 1 if a person has a voice, otherwise 0."""
        return self._person(name)[2]

    def has_name(self, value):
        """Tell whether a value, which may be anything, is a name of the standing."""
        return isinstance(value, str) and value in self._by_name

    def places(self):
        """Return the ascending list of the places, each once."""
        return sorted({person[1] for person in self._people})

    def at(self, place):
        """Return the list of the names of the crowd at a place, in the order of the standing."""
        if not is_integer(place):
            return []
        return [person[0] for person in self._people if person[1] == place]

    def line(self):
        """Return the list of all names in line order."""
        # sorted keeps people of one place in the order of the standing.
        by_place = sorted(self._people, key=lambda row: row[1])
        return [person[0] for person in by_place]

    def voices(self):
        """Return the number of people with a voice."""
        return sum([person[2] for person in self._people])

    def is_together(self):
        """Tell whether there is at most one place."""
        return len(self.places()) <= 1

    def __eq__(self, other):
        return isinstance(other, Standing) and self._people == other._people


def are_like(one, other):
    """Tell whether two standings have like people."""
    return _without_places(one) == _without_places(other)


def _without_places(standing):
    return [(name, voice) for name, _, voice in standing.people()]


def places_in_order(standing):
    """Return the tuple of the places of all people, in the order of the standing."""
    return tuple([person[1] for person in standing.people()])


def placed(standing, places):
    """Return the standing with like people at these places, told in the order of the standing."""
    return Standing([(name, place, voice) for (name, _, voice), place in zip(standing.people(), places)])


def crowd_names(standing):
    """Return the list of the first person of each crowd, in the order of the standing, from left to right."""
    first_at = {}
    for name, place, _ in standing.people():
        first_at.setdefault(place, name)
    return [first_at[place] for place in sorted(first_at)]


def moved_person(standing, name, place):
    """Return the standing in which a person has this place."""
    return _with_replaced(standing, (name, place, standing.voice(name)))


def voiced(standing, name, voice):
    """Return the standing in which a person has this voice."""
    return _with_replaced(standing, (name, standing.place(name), voice))


def _with_replaced(standing, person):
    return Standing([person if old[0] == person[0] else old for old in standing.people()])


def without_person(standing, name):
    """Return the standing without a person."""
    if not standing.has_name(name):
        raise UnknownName(name)
    return Standing([person for person in standing.people() if person[0] != name])


def with_person(standing, person):
    """Return the standing with one more person, behind the others."""
    return Standing([*standing.people(), person])


def turned_standing(standing):
    """Return the standing in which each place p has become -p."""
    return Standing([(name, -place, voice) for name, place, voice in standing.people()])


def shifted_standing(standing, by):
    """Return the standing in which each place is greater by an integer."""
    return Standing([(name, place + by, voice) for name, place, voice in standing.people()])
