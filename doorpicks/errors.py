"""The refusals."""


class PickError(ValueError):
    """Any refusal."""


class NoBounds(PickError):
    """There are no picks, sets or kinds of such bounds."""


class NoPick(PickError):
    """What was handed in is none of those that are numbered."""


class NoNumber(PickError):
    """None of those that are numbered has such a number."""


class NoChange(PickError):
    """There is but one, so that nothing changes to the next."""


class NoText(PickError):
    """What was handed in is not the text of a pick."""
