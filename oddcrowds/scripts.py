"""Scripts: rows of calls that are done one after the other, and their texts."""

from oddcrowds.calls import called_up_to, can_call
from oddcrowds.errors import BadCall
from oddcrowds.reading import Reader
from oddcrowds.words import is_number


def standings_along(standing, script):
    """Return the list of the standings that a script comes through, the given one first."""
    found, bad = followed(standing, script, can_call)
    if bad is not None:
        raise BadCall(bad)
    return found


def walked(standing, script):
    """Return the standing to which a script leads."""
    return standings_along(standing, script)[-1]


def first_bad(standing, value):
    """Return the number of the first member that is no row that can be made, None if value is a script.

    It is 0 if value, which may be anything, is neither a list nor a tuple.
    """
    if not isinstance(value, (list, tuple)):
        return 0
    _, bad = followed(standing, value, can_call)
    return bad


def followed(standing, script, may_call):
    """Return the standings ahead of the first bad member and behind each row there, and its number or None.

    may_call(standing, name) tells whether the crowd of a person may call.
    """
    found = [standing]
    for k, row in enumerate(script):
        behind = behind_row(found[-1], row, may_call)
        if behind is None:
            return found, k
        found.append(behind)
    return found, None


def behind_row(standing, row, may_call):
    """Return the standing behind a row of calls, None if it, which may be anything, is none that can be made whole."""
    if not isinstance(row, tuple) or len(row) != 2:
        return None
    name, times = row
    if not standing.has_name(name) or not is_number(times) or times == 0:
        return None
    behind, made = called_up_to(standing, name, times, may_call)
    return behind if made == times else None


def calls_of(script):
    """Return the sum of the times of all rows."""
    return sum([times for _, times in script])


def script_text(script):
    """Return the written text of a list of pairs (name, times)."""
    lines = [f"{name} calls {times};\n" for name, times in script]
    return "".join(["script {\n", *lines, "}\n"])


def read_script(text):
    """Return the list of the pairs (name, times) that a text tells."""
    reader = Reader(text)
    reader.take("script")
    reader.take("{")
    rows = []
    while not reader.accepts("}"):
        rows.append(_take_row(reader))
    reader.finish()
    return rows


def _take_row(reader):
    name = reader.take_word()
    reader.take("calls")
    times = reader.take_positive()
    reader.take(";")
    return (name, times)
