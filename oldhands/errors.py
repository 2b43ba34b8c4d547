"""The refusals: each a class of its own straight under HandError."""


class HandError(ValueError):
    """What the program refuses."""


class BadKind(HandError):
    """What is no kind."""


class BadValue(HandError):
    """A value that is not of its kind."""


class BadPath(HandError):
    """A path that is none, or that leads nowhere."""


class BadTurn(HandError):
    """What is no turn, or none of the kind."""


class BadPiece(HandError):
    """What is no piece, or none of the record kind."""


class BadVersion(HandError):
    """A number of no version."""


class BadText(HandError):
    """A text that is not written as it must be."""


class BadQuestion(HandError):
    """What is no question of the shape."""


class NoRecord(HandError):
    """A key of no record."""


class Taken(HandError):
    """What is taken already."""


class NoDeed(HandError):
    """What is no deed, or no deed to take back or do again."""


class Full(HandError):
    """One more than there may be."""


def refusal_name(refusal):
    """The name of a refusal's class."""
    if isinstance(refusal, BadKind):
        return "BadKind"
    if isinstance(refusal, BadValue):
        return "BadValue"
    if isinstance(refusal, BadPath):
        return "BadPath"
    if isinstance(refusal, BadTurn):
        return "BadTurn"
    if isinstance(refusal, BadPiece):
        return "BadPiece"
    if isinstance(refusal, BadVersion):
        return "BadVersion"
    if isinstance(refusal, BadText):
        return "BadText"
    if isinstance(refusal, BadQuestion):
        return "BadQuestion"
    if isinstance(refusal, NoRecord):
        return "NoRecord"
    if isinstance(refusal, Taken):
        return "Taken"
    if isinstance(refusal, NoDeed):
        return "NoDeed"
    if isinstance(refusal, Full):
        return "Full"
    return "HandError"
