"""The refusals: each is a MatchError, and so a ValueError."""


class MatchError(ValueError):
    """Any refusal."""


class BadThing(MatchError):
    """No thing; at is the number of the first that cannot be, from 0, outer ones ahead of inner ones."""

    def __init__(self, at):
        super().__init__(f"thing {at} cannot be")
        self.at = at


class BadClaims(MatchError):
    """No claims; at is the first claim that cannot be, from 0."""

    def __init__(self, at):
        super().__init__(f"claim {at} cannot be")
        self.at = at


class BadHeld(MatchError):
    """No holding; at is its first pair that cannot be, from 0."""

    def __init__(self, at):
        super().__init__(f"pair {at} of the holding cannot be")
        self.at = at


class BadRoom(MatchError):
    """No room."""


class BadNumbers(MatchError):
    """Numbers beyond their range, or out of their order."""


class NoThing(MatchError):
    """A thing that there is not."""


class NoHelper(MatchError):
    """A helper that there is not."""


class TooMany(MatchError):
    """One thing or helper more than a desk takes."""


class BadText(MatchError):
    """No text of things and helpers; line is the first that cannot stand there, from 0."""

    def __init__(self, line):
        super().__init__(f"line {line} cannot stand there")
        self.line = line
