"""The errors of the package."""


class MeetError(ValueError):
    """Any error of the package; each other one stands directly under it."""


class TooMany(MeetError):
    """There are more persons, pairs or meetings than a function takes."""

    def __init__(self, limit):
        self.limit = limit


class SyntaxProblem(MeetError):
    """A text does not go on with the token at this place."""

    def __init__(self, line, column):
        self.line = line
        self.column = column


class NoMeeting(MeetError):
    """A party has no meeting, as the bar shows."""

    def __init__(self, bar):
        self.bar = bar


class NoParty(MeetError):
    """Something is no party."""


class NoPair(MeetError):
    """Something is no pair of a party's persons."""


class NoFit(MeetError):
    """Something is no meeting of a party."""


class NoBar(MeetError):
    """Something is no bar of a party."""


class NoFact(MeetError):
    """Something is no fact of a party."""


class NoName(MeetError):
    """Something is no name, or none that is known."""


class NoMark(MeetError):
    """There is nothing to undo, or nothing to do again."""


class Mismatch(MeetError):
    """Something does not match what it is used with."""


class InvalidCommand(MeetError):
    """A line is no command."""
