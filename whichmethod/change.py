"""What hangs on what: on a method more or less, on the kind at a place, and which methods nothing calls."""

from whichmethod.below import is_shape_below
from whichmethod.data import shapes
from whichmethod.errors import Doubled, NoMethod, NotAsked
from whichmethod.forms import frozen
from whichmethod.hitting import least_hitting
from whichmethod.table import Table


def with_method(generic, label, shape):
    """The GENERIC with a further method; raises Doubled(label) if one has this label or this SHAPE."""
    kinds, places, methods = frozen(generic)
    own = (label, tuple(shape))
    for row in methods:
        if row[0] == own[0] or row[1] == own[1]:
            raise Doubled(label)
    return (kinds, places, tuple(sorted(methods + (own,))))


def without(generic, label):
    """The GENERIC without a method; raises NoMethod(label)."""
    kinds, places, methods = frozen(generic)
    left = tuple([row for row in methods if row[0] != label])
    if left == methods:
        raise NoMethod(label)
    return (kinds, places, left)


def elsewhere(generic, other):
    """The ascending list of the calls for which chosen tells unlike things of two GENERICs."""
    one = Table(generic)
    two = Table(other)
    return [call for call in shapes(generic) if one.chosen(call) != two.chosen(call)]


def asked(generic):
    """The ascending list of the places on whose kinds it hangs what chosen tells."""
    told = _told(generic)
    return [place for place in range(generic[1]) if _least_pair(generic, told, place) is not None]


def _told(generic):
    """For each call what chosen tells, the calls ascending."""
    table = Table(generic)
    return {call: table.chosen(call) for call in shapes(generic)}


def _least_pair(generic, told, place):
    """The least two calls, unlike at this place alone, of which unlike things are told; None if there are none."""
    names = sorted([row[0] for row in generic[0]])
    for call, label in told.items():
        for name in names:
            other = call[:place] + (name,) + call[place + 1 :]
            # A lesser one would have been found ahead of this call, beside it.
            if told[other] != label:
                return (call, other)
    return None


def shows_asked(generic, place):
    """The least two calls that show that a place is asked, the lesser one first; raises NotAsked(place)."""
    pair = None
    if place in range(generic[1]):
        pair = _least_pair(generic, _told(generic), place)
    if pair is None:
        raise NotAsked(place)
    return pair


def hidden(generic):
    """The ascending list of the labels of the methods that win no live call."""
    table = Table(generic)
    told = {table.chosen(call): True for call in _live_calls(generic)}
    return [label for label, shape in table.methods if label not in told]


def _live_calls(generic):
    bare = {name: True for name, supers, is_bare in generic[0] if is_bare}
    return [call for call in shapes(generic) if not any([kind in bare for kind in call])]


def hiding(generic, label):
    """None if the method is not hidden, otherwise the least of the smallest sets that hide it; raises NoMethod."""
    table = Table(generic)
    own = table.shape_of(label)
    # Each that fits a call takes it from this one, as it is nearer or tears the call, unless this one is below it.
    others = [name for name, shape in table.methods if not is_shape_below(table.above, own, shape)]
    calls = [call for call in _live_calls(generic) if is_shape_below(table.above, call, own)]
    rows = [_numbered(others, table.fitting(call)) for call in calls]
    if 0 in rows:
        return None
    return tuple([others[number] for number in least_hitting(rows)])


def _numbered(names, some):
    """The set of the numbers of those names that are among some: a bit for each."""
    return sum([1 << number for number, name in enumerate(names) if name in some])
