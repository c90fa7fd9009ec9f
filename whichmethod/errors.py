"""The errors that the document names."""

from whichmethod.forms import frozen


class NoMethod(LookupError):
    """No method has this label."""

    def __init__(self, label):
        self.label = frozen(label)


class NotNeeded(LookupError):
    """This SHAPE is not among those that mend."""

    def __init__(self, shape):
        self.shape = frozen(shape)


class NotAsked(LookupError):
    """Which method is taken does not hang on the kind at this place."""

    def __init__(self, place):
        self.place = frozen(place)


class Doubled(ValueError):
    """There is a method with this label, or with its SHAPE, already."""

    def __init__(self, label):
        self.label = frozen(label)


class NotFitting(ValueError):
    """No method with this label fits this call."""

    def __init__(self, call, label):
        self.call = frozen(call)
        self.label = frozen(label)


class BadLine(ValueError):
    """The line of this number is not written as it must be, or cannot stand there."""

    def __init__(self, number):
        self.number = frozen(number)
