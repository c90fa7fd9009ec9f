"""Which further methods mend a GENERIC, why each of them is needed, and what they take away."""

from whichmethod.calls import Calls
from whichmethod.errors import NotNeeded


def mend(generic):
    """The ascending list of the SHAPEs of the least set that mends."""
    calls = Calls(generic)
    return calls.as_list(_mending(calls, calls.methods))


def stages(generic):
    """Ascending lists of SHAPEs: the greatest torn calls, then those once there are methods for these, and so on."""
    calls = Calls(generic)
    return [calls.as_list(stage) for stage in _stages(calls, calls.methods)]


def _stages(calls, methods):
    rows = []
    stage = calls.greatest_torn(methods)
    while stage:
        rows.append(stage)
        methods = methods | stage
        stage = calls.greatest_torn(methods)
    return rows


def _mending(calls, methods):
    # What has a method is not torn, so no SHAPE is in two stages.
    return sum(_stages(calls, methods))


def is_mended(generic, shapes):
    """Whether no call is torn once there are methods for these SHAPEs, too."""
    calls = Calls(generic)
    return not calls.torn(calls.methods | calls.as_set(shapes))


def chain(generic, shape):
    """A tuple of SHAPEs, this one last, each a greatest torn call after those ahead of it; raises NotNeeded(shape)."""
    calls = Calls(generic)
    _check_needed(calls, shape)
    over = calls.over[calls.numbers[tuple(shape)]]
    rows = []
    for stage in _stages(calls, calls.methods):
        # Whether a call is a greatest torn one hangs on those above it alone, so the others can be left out.
        rows.extend(calls.as_list(stage & over))
    return tuple(rows)


def _check_needed(calls, shape):
    if not calls.as_set([shape]) & _mending(calls, calls.methods):
        raise NotNeeded(shape)


def is_chain(generic, shape, thing):
    """Whether thing is a tuple as chain tells."""
    if not isinstance(thing, tuple) or not thing:
        return False
    calls = Calls(generic)
    methods = calls.methods
    for part in thing:
        if not calls.is_call(part) or not calls.as_set([part]) & calls.greatest_torn(methods):
            return False
        methods = methods | calls.as_set([part])
    # A chain can only lead to a SHAPE of mend, so nothing more is asked of the last one.
    return thing[-1] == tuple(shape)


def who(generic, shape):
    """The ascending labels of the methods without each of which this SHAPE is not in mend; raises NotNeeded(shape)."""
    calls = Calls(generic)
    _check_needed(calls, shape)
    return [label for label, own in generic[2] if not _is_needed_without(calls, own, shape)]


def _is_needed_without(calls, own, shape):
    methods = calls.methods ^ calls.as_set([own])
    return calls.as_set([shape]) & _mending(calls, methods) != 0


def lost(generic):
    """The ascending list of the calls that have a winner which is not theirs any more once mended."""
    calls = Calls(generic)
    mended = calls.methods | _mending(calls, calls.methods)
    return sorted([call for call, number in calls.numbers.items() if _is_lost(calls, number, mended)])


def _is_lost(calls, number, mended):
    own = calls.winner(number, calls.methods)
    return own is not None and own != calls.winner(number, mended)
