"""The methods of a GENERIC, set out once for many calls."""

from whichmethod.below import is_shape_below, uppers
from whichmethod.errors import NoMethod


class Table:
    """Tells of calls which methods fit them, and which are nearest."""

    def __init__(self, generic):
        kinds, _, methods = generic
        self.kinds = kinds
        self.above = uppers(kinds)
        self.methods = [(label, tuple(shape)) for label, shape in methods]
        self.nearer = {label: self._nearer_than(shape) for label, shape in self.methods}

    def _nearer_than(self, shape):
        """The labels of the methods whose SHAPEs are below this one and unlike it."""
        return [label for label, other in self.methods if other != shape and is_shape_below(self.above, other, shape)]

    def shape_of(self, label):
        """The SHAPE of the method with this label; raises NoMethod(label)."""
        for name, shape in self.methods:
            if name == label:
                return shape
        raise NoMethod(label)

    def fitting(self, call):
        """The ascending list of the labels of the methods that fit a call."""
        return [label for label, shape in self.methods if is_shape_below(self.above, call, shape)]

    def nearest(self, call):
        """The ascending list of the labels of the methods that are nearest to a call."""
        fits = self.fitting(call)
        return [label for label in fits if not any([lower in fits for lower in self.nearer[label]])]

    def chosen(self, call):
        """The label of the call's winner, or "none" if no method fits, or "torn"."""
        labels = self.nearest(call)
        if not labels:
            return "none"
        if len(labels) > 1:
            return "torn"
        return labels[0]
