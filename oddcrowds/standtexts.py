"""Texts of standings."""

from oddcrowds.reading import Reader
from oddcrowds.standings import Standing


def standing_text(standing):
    """Return the written text of a standing."""
    lines = [_person_line(person) for person in standing.people()]
    return "".join(["standing {\n", *lines, "}\n"])


def _person_line(person):
    name, place, voice = person
    if voice == 1:
        return f"{name} at {place} voice;\n"
    return f"{name} at {place};\n"


def read_standing(text):
    """Return the standing that a text tells."""
    reader = Reader(text)
    reader.take("standing")
    reader.take("{")
    people = []
    while not reader.accepts("}"):
        people.append(take_person(reader))
        reader.take(";")
    reader.finish()
    return Standing(people)


def take_person(reader):
    """Take a name, its place and perhaps its voice, and return the person."""
    name = reader.take_word()
    reader.take("at")
    place = reader.take_place()
    voice = 1 if reader.accepts("voice") else 0
    return (name, place, voice)
