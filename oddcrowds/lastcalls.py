"""By which last calls all can come together, if the number of voices is odd."""

from oddcrowds.gaps import gaps, with_widths
from oddcrowds.leading import calls_of_first, leads
from oddcrowds.leadscripts import script_with
from oddcrowds.meeting import ask_odd_voices
from oddcrowds.standings import crowd_names
from oddcrowds.words import is_integer


def last_calls(standing):
    """Return the list of the last calls that come about, in order."""
    ask_odd_voices(standing)
    return [call for call in _calls_of_kinds(standing) if leads(standing, _ahead_of(standing, call))]


def _calls_of_kinds(standing):
    """Return all last calls that the kinds of the gaps let be, in order."""
    kinds = [kind for _, _, kind in gaps(standing)]
    first = [("first", gap) for gap, kind in enumerate(kinds) if kind == "odd"]
    last = [("last", gap) for gap, kind in enumerate(kinds) if kind == "even"]
    between = [("between", gap, second) for gap, kind in enumerate(kinds) for second in range(gap + 1, len(kinds))
               if kind != kinds[second]]
    return first + last + between


def _ahead_of(standing, call):
    """Return the standing in which just the gaps of a last call are left, one step wide each."""
    left = [1 if gap in call[1:] else 0 for gap, _ in enumerate(gaps(standing))]
    # The first place goes one step right for each step that the even gaps lose.
    moved = sum([width - kept for (_, width, kind), kept in zip(gaps(standing), left) if kind == "even"])
    return with_widths(standing, moved, left)


def last_script(standing, call):
    """Return a script with this last call, None if it, which may be anything, is none that comes about."""
    ask_odd_voices(standing)
    if not _is_last_call(standing, call):
        return None
    ahead = _ahead_of(standing, call)
    fewest, _ = calls_of_first(standing, ahead)
    return [*script_with(standing, ahead, fewest), (_caller_of(ahead, call), 1)]


def _is_last_call(standing, call):
    if not isinstance(call, tuple) or not all([is_integer(gap) for gap in call[1:]]):
        # True is no number of a gap, though Python takes it for 1.
        return False
    return call in _calls_of_kinds(standing) and leads(standing, _ahead_of(standing, call))


def _caller_of(ahead, call):
    """Return the caller of the last call; ahead of a call between there are three crowds."""
    names = crowd_names(ahead)
    if call[0] == "between":
        return names[1]
    return names[0] if call[0] == "first" else names[-1]
