"""The refusals, each made of a text."""


class RillError(ValueError):
    """What all refusals stand beneath."""


class TooMany(RillError):
    """There are, or would be, more than are told to be."""


class There(RillError):
    """The tie is there."""


class NoTie(RillError):
    """The tie is not there."""


class NoSpring(RillError):
    """The place is no spring."""


class NoMouth(RillError):
    """The place is no mouth."""


class Apart(RillError):
    """The web is not in one piece."""


class SamePlace(RillError):
    """Two places are one."""


class NoText(RillError):
    """The thing is no text of a web or of a pointing."""


class NoRow(RillError):
    """The thing is no row for a desk."""


class NoPlace(RillError):
    """The number is no place."""


class NoFall(RillError):
    """The pointing has a round."""


class NoPast(RillError):
    """No deed is there to be taken back."""
