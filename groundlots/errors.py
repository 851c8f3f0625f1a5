"""The refusals, each a class of its own straight under GroundError.

A refusal may hold what was handed in, which may be anything. So no message
shows it: the field alone keeps it.
"""


class GroundError(ValueError):
    """Anything that the program refuses."""


class BadName(GroundError):
    """What is no name, where one is wanted."""


class BadNames(GroundError):
    """What is no list of names, where one is wanted."""


class BadRule(GroundError):
    """What is no rule, or makes none."""


class BadRules(GroundError):
    """What is no base."""


class NotPlain(GroundError):
    """A rule with `not`, where plain ones are wanted."""


class NoText(GroundError):
    """A text of which a row, counted from 1, cannot be read; 0 is all of it."""

    def __init__(self, row):
        GroundError.__init__(self, "this text cannot be read")
        self.row = row


class NotHeld(GroundError):
    """A name that is not held, or a clash that is none."""


class IsHeld(GroundError):
    """A name that is held, or a clash that there is."""


class BadSets(GroundError):
    """What is no list of sets, or no set."""


class TooMany(GroundError):
    """More than there may be."""


class NoRule(GroundError):
    """A number under which no rule stands."""

    def __init__(self, number):
        GroundError.__init__(self, "no rule stands under this number")
        self.number = number


class NoDeed(GroundError):
    """No deed to take back, or to do again."""


class Twice(GroundError):
    """A name that is there already."""

    def __init__(self, name):
        GroundError.__init__(self, "this name is there already")
        self.name = name


class NotThere(GroundError):
    """A name that is not there."""

    def __init__(self, name):
        GroundError.__init__(self, "this name is not there")
        self.name = name


class NoLog(GroundError):
    """A list of deeds of which a row, counted from 0, is none."""

    def __init__(self, at):
        GroundError.__init__(self, "this row is no deed")
        self.at = at


class BadRanks(GroundError):
    """What is no ranks, or no rank."""


class Needed(GroundError):
    """A name that is held, or a clash that there is, without any grounds."""


class BadWay(GroundError):
    """What is no way to give up."""


class Contrary(GroundError):
    """What cannot be sound, whatever is given up."""


class BadStep(GroundError):
    """A list of steps of which one, counted from 0, is none."""

    def __init__(self, at):
        GroundError.__init__(self, "this is no step")
        self.at = at


class BadParts(GroundError):
    """What is no dict of parts and their shares."""
