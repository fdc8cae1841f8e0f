"""What the program refuses."""


class PegError(ValueError):
    """Any refusal."""


class NoPart(PegError):
    """No whole number is a part of nought."""


class NoRow(PegError):
    """The row is none that is asked for."""


class NoStretch(PegError):
    """The stretch, or the width of one, is none that is asked for."""


class NotAlone(PegError):
    """The row hasn't just one root in the stretch, as far as its turns tell."""


class NoQuotient(PegError):
    """Nothing is divided by nought."""
