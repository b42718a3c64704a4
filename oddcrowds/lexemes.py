"""The lexemes of texts."""

from oddcrowds.errors import BadText
from oddcrowds.words import DIGITS, LETTERS, LETTERS_AND_DIGITS, LONGEST_WORD

BETWEEN = " \n"
SIGNS = "{};-"


def lexemes(text):
    """Return the list of the lexemes of a text, as triples (sort, lexeme, place)."""
    found, end = lexemes_ahead(text)
    if end < len(text):
        raise BadText(end)
    return found


def lexemes_ahead(text):
    """Return the lexemes ahead of the first character that begins none, and its place.

    The place is the length of the text if there is no such character.
    """
    found = []
    place = 0
    while place < len(text):
        if text[place] in BETWEEN:
            place += 1
            continue
        kind, end = _lexeme_at(text, place)
        if kind is None:
            return found, place
        found.append((kind, text[place:end], place))
        place = end
    return found, place


def _lexeme_at(text, place):
    """Return the sort of the lexeme that begins at a place, and its end; the sort None if none does."""
    first = text[place]
    if first in LETTERS:
        end = _run_end(text, place, LETTERS_AND_DIGITS)
        if end - place > LONGEST_WORD:
            return None, place
        return "word", end
    if first == "0":
        return "number", place + 1
    if first in DIGITS:
        return "number", _run_end(text, place, DIGITS)
    if first in SIGNS:
        return "sign", place + 1
    return None, place


def _run_end(text, place, allowed):
    while place < len(text) and text[place] in allowed:
        place += 1
    return place
