"""The refusals: one class for each thing that can be wrong."""


class SignalError(ValueError):
    """Any refusal."""


class NoSize(SignalError):
    """Too few or too many inputs, or too many gates."""


class NoKind(SignalError):
    """A word that is no kind of gate."""


class NoSources(SignalError):
    """A number of sources that the kind does not take."""


class NoLine(SignalError):
    """A number that is no line where a line is asked for."""


class NoDelay(SignalError):
    """A delay that is too short or too long."""


class NoValues(SignalError):
    """Values that are not as many as the lines they are for."""


class Ringed(SignalError):
    """A ring where none may be."""


class NoDeed(SignalError):
    """Nothing is there to be taken back."""


class NoText(SignalError):
    """A text that is not of the form of a written plan."""
