"""The refusals, one class for each."""


class RiddleError(ValueError):
    """Any refusal of this program."""


class NoName(RiddleError):
    """What should be a name of the riddle is none."""


class NoBit(RiddleError):
    """What should be the bit 0 or 1 is neither."""


class NoTurning(RiddleError):
    """What should be a turning of as many names is none."""


class NoAnswer(RiddleError):
    """What should be an answer is none."""


class NoNumber(RiddleError):
    """What should be a number within its bounds is none."""


class NoClause(RiddleError):
    """What should be a clause of the riddle's names is none."""


class NoPutting(RiddleError):
    """What should be a putting of the riddle is none."""


class TooMany(RiddleError):
    """There are, or would be, too many names or clauses."""


class NoRiddle(RiddleError):
    """Nothing is kept by this name."""


class BadNote(RiddleError):
    """A text, or a line, is not written as it should be."""
