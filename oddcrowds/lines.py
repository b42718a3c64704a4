"""Reading the lines that a console understands."""

from oddcrowds.reading import Reader
from oddcrowds.standtexts import take_person

ALONE = ("undo", "redo", "show", "made", "meets", "parts", "least", "most", "early", "late", "callers", "on")
WITH_NAME = ("go", "voice", "keep", "has", "to")


def read_line(line):
    """Return what a line says: an act, or a tuple of its first word and perhaps a name."""
    reader = Reader(line)
    said = _take_said(reader)
    reader.finish()
    return said


def _take_said(reader):
    for word in ALONE:
        if reader.accepts(word):
            return (word,)
    for word in WITH_NAME:
        if reader.accepts(word):
            return (word, reader.take_word())
    if reader.accepts("call"):
        return ("call", reader.take_word(), 1 if reader.is_over() else reader.take_number())
    if reader.accepts("come"):
        return ("come", take_person(reader))
    if reader.accepts("step"):
        return ("step", reader.take_word(), reader.take_place())
    if reader.accepts("goal"):
        return ("goal", _take_places(reader))
    reader.take("clear")
    return ("goal", None)


def _take_places(reader):
    places = []
    while not reader.is_over():
        places.append(reader.take_place())
    return tuple(places)
