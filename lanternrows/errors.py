"""The refusals: one class for each, all of them straight under LanternError."""


class LanternError(ValueError):
    """Any refusal."""


class NoLayer(LanternError):
    """What should be a layer is none."""


class NoWindow(LanternError):
    """What should be a window is none."""


class NoSheet(LanternError):
    """What should be a sheet is none."""


class NoMoment(LanternError):
    """What should be a moment is none."""


class NoRow(LanternError):
    """What should be a row is none."""


class NoNumber(LanternError):
    """A number is not as it is told to be."""


class NoDrawings(LanternError):
    """What should be a list of drawings is none."""


class Unlike(LanternError):
    """Two sheets have not as many layers as one another."""


class Endless(LanternError):
    """What should have a length has none."""


class Squeezed(LanternError):
    """A row would have less than one picture."""


class NoPaper(LanternError):
    """What should be a paper is none."""


class NoDeed(LanternError):
    """What should be a deed is none, or names what does not stand."""


class NoText(LanternError):
    """A text is not what a sheet is written as."""


class NoWords(LanternError):
    """A row told to a desk is none that it knows."""


# The two below set no message of their own: Python keeps what they were made
# with, so that a copy of such an error has its fields too.


class TooMany(LanternError):
    """There were `many` where `most` may be."""

    def __init__(self, many, most):
        self.many = many
        self.most = most


class Leaned(LanternError):
    """The deeds of `numbers` lean on the one that should be undone."""

    def __init__(self, numbers):
        self.numbers = numbers
