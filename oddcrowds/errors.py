"""All errors that the package raises of its own."""


class CrowdError(ValueError):
    """What cannot be done with standings, calls, texts or acts."""


class UnlikePeople(CrowdError):
    """Standings that should have like people do not."""


class EvenVoices(CrowdError):
    """The number of voices is even where it must be odd."""


class OddVoices(CrowdError):
    """The number of voices is odd where it must be even."""


class TooGreat(CrowdError):
    """More would come about than is told, or a number is too great."""


class NothingDone(CrowdError):
    """There is no act to undo or to redo."""


class BadStanding(CrowdError):
    """What should be a standing is none; path leads to its first wrong part."""

    def __init__(self, path):
        self.path = tuple(path)


class NoLead(CrowdError):
    """One standing does not lead to another one; paper proves it."""

    def __init__(self, paper):
        self.paper = paper


class BadCall(CrowdError):
    """The row of calls or the call with this number cannot be made."""

    def __init__(self, number):
        self.number = number


class BadNumber(CrowdError):
    """A number is not from the least one to the greatest one that there are."""

    def __init__(self, least, most):
        self.least = least
        self.most = most


class BadText(CrowdError):
    """A text is not of the form that is read; place is its first wrong place."""

    def __init__(self, place):
        self.place = place


class BadAct(CrowdError):
    """What should be an act is none here; word tells why."""

    def __init__(self, word):
        self.word = word


class NameMissing(LookupError):
    """There is nothing under a name."""


class UnknownName(NameMissing):
    """This name is nobody's."""

    def __init__(self, name):
        self.name = name
