"""The refusals: one class for each, all right under OnceError."""


class OnceError(ValueError):
    """Any refusal."""


class NoText(OnceError):
    """A text that writes no such thing; at is the number of the first sign that can't be."""

    def __init__(self, at):
        self.at = at


class NoKind(OnceError):
    """A term without a kind: the def's name or None, the number of the part at fault, and why."""

    def __init__(self, name, at, why):
        self.name = name
        self.at = at
        self.why = why


class TooLong(OnceError):
    """More steps than asked for."""


class NoAgent(OnceError):
    """No agent of the net, or no number for a new one."""


class NoPort(OnceError):
    """No port of the net."""


class Tied(OnceError):
    """A port that is tied already, or that was to be tied to itself."""


class NoMove(OnceError):
    """No move of the net."""


class NoRule(OnceError):
    """Two that meet without a rule."""


class NoDef(OnceError):
    """No def of the program."""


class NotShown(OnceError):
    """A def whose kind isn't shown."""


class NoSymbol(OnceError):
    """No symbol of the program."""


class NoRoom(OnceError):
    """More words than there is room for."""


class NoRun(OnceError):
    """No run of this name, or no paper or log of one."""


class NoLine(OnceError):
    """A line of no net."""


class NoRow(OnceError):
    """A row that a desk doesn't know."""


class BadProgram(OnceError):
    """Data kinds or defs that make no program."""


class BadName(OnceError):
    """No name."""


class Twice(OnceError):
    """A name that is taken already."""


class BadParcel(OnceError):
    """No parcel of a run."""


class NoMark(OnceError):
    """No mark of this name."""


class BadDeed(OnceError):
    """No deed of a house."""
