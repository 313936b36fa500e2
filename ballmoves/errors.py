"""All errors of the package."""


def copy_of(value):
    """A copy of a value, with new lists and dicts at any depth."""
    if isinstance(value, list):
        return [copy_of(part) for part in value]
    if isinstance(value, tuple):
        return tuple([copy_of(part) for part in value])
    if isinstance(value, dict):
        return {key: copy_of(value[key]) for key in value}
    return value


class BallError(ValueError):
    """What a call cannot do with what it was passed."""


class BadPoint(BallError):
    """Two values that tell no point."""


class BadMove(BallError):
    """Four values that tell no move."""


class BadBall(BallError):
    """Two values that tell no ball."""


class BadDigits(BallError):
    """A value that is the digits of no fraction."""


class FarPoint(BallError):
    """The far point stands for no fraction."""


class SamePoints(BallError):
    """Two of three points are equal."""


class NotKept(BallError):
    """The move does not keep it."""


class NotOnLine(BallError):
    """The ball is on no line of the move."""


class NoEnds(BallError):
    """The move keeps no ends that could be told."""


class TooMany(BallError):
    """There are more of them than are let."""


class BadDeed(BallError):
    """A value that is no deed."""


class NothingDone(BallError):
    """There is nothing to undo or to redo."""


class TooGreat(BallError):
    """A prime number above 97 divides a number."""

    def __init__(self, prime):
        self.prime = copy_of(prime)


class NotStretching(BallError):
    """The move of this number does not stretch."""

    def __init__(self, number):
        self.number = copy_of(number)


class BadText(BallError):
    """A text that cannot be read from this place on."""

    def __init__(self, place):
        self.place = copy_of(place)


class BadName(BallError):
    """A value that cannot be a new name."""

    def __init__(self, name):
        self.name = copy_of(name)


class Clash(BallError):
    """These names do not go together."""

    def __init__(self, names):
        self.names = copy_of(names)


class Ring(BallError):
    """The first of these names would hang on itself, by the others."""

    def __init__(self, names):
        self.names = copy_of(names)


class Missing(LookupError):
    """What is asked for is not there."""


class UnknownName(Missing):
    """There is no such name."""

    def __init__(self, name):
        self.name = copy_of(name)


class NoMoment(Missing):
    """There is no moment of this number."""

    def __init__(self, number):
        self.number = copy_of(number)
