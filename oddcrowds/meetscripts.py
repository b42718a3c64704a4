"""Scripts behind which all are together."""

from oddcrowds.losses import Losses
from oddcrowds.meeting import meeting_place, share_of
from oddcrowds.pieces import tidy_rows
from oddcrowds.scripts import first_bad, walked
from oddcrowds.standings import placed


def meet_script(standing, calls):
    """Return a script with just so many calls behind which all are together."""
    calls_of_first, _, _ = share_of(standing, calls)
    together = placed(standing, [meeting_place(standing) for _ in standing.people()])
    return tidy_rows(standing, Losses(standing, together), calls_of_first)


def judge_meeting(standing, value):
    """Return None if a value, which may be anything, is a script behind which all are together; else what is wrong."""
    if not isinstance(value, (list, tuple)):
        return ("form",)
    bad = first_bad(standing, value)
    if bad is not None:
        return ("row", bad)
    if not walked(standing, value).is_together():
        return ("apart",)
    return None
