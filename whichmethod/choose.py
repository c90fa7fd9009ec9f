"""Which methods fit a call, which are nearest, and which calls are torn."""

from whichmethod.below import greatest_shapes
from whichmethod.data import common, shapes
from whichmethod.table import Table


def fitting(generic, call):
    """The ascending list of the labels of the methods that fit a call."""
    return Table(generic).fitting(call)


def nearest(generic, call):
    """The ascending list of the labels of the methods that are nearest to a call."""
    return Table(generic).nearest(call)


def chosen(generic, call):
    """The label of the call's winner, or "none" if no method fits, or "torn"."""
    return Table(generic).chosen(call)


def torn(generic):
    """The ascending list of all torn calls."""
    return _torn_calls(Table(generic), generic)


def greatest_torn(generic):
    """The ascending list of the torn calls that are not below another torn one."""
    table = Table(generic)
    return greatest_shapes(table.above, _torn_calls(table, generic))


def _torn_calls(table, generic):
    return [call for call in shapes(generic) if len(table.nearest(call)) > 1]


def meet(generic, label, other):
    """The least call to which both methods are nearest, or None; raises NoMethod(label)."""
    table = Table(generic)
    # Asked for their SHAPEs only to raise for the first label that names no method.
    table.shape_of(label)
    table.shape_of(other)
    for call in shapes(generic):
        labels = table.nearest(call)
        if label in labels and other in labels:
            return call
    return None


def cover(generic, label, other):
    """None if meet tells a call; otherwise for each greatest common part the least label that covers it."""
    if meet(generic, label, other) is not None:
        return None
    table = Table(generic)
    nearer = table.nearer[label] + table.nearer[other]
    parts = common(table.kinds, table.shape_of(label), table.shape_of(other))
    return [_least_covering(table, nearer, part) for part in parts]


def _least_covering(table, nearer, part):
    # There is always one: otherwise both would be nearest to this part, and meet would tell a call.
    return [label for label in table.fitting(part) if label in nearer][0]
