"""Whether an order of the kinds can decide which method wins a call."""

from itertools import combinations

from whichmethod.below import uppers
from whichmethod.choose import torn
from whichmethod.data import shapes
from whichmethod.errors import NotFitting
from whichmethod.forms import are_names_of, frozen, is_tuple_of
from whichmethod.rings import is_ring, nexts_of, shortest_ring
from whichmethod.standing import standing_of
from whichmethod.table import Table


def is_order(kinds, thing):
    """Whether thing is an ORDER of these KINDS."""
    above = uppers(kinds)
    if not is_tuple_of(len(above), thing) or not are_names_of(above, thing):
        return False
    # A kind that stands there twice has itself ahead of it, so this tells of doubles, too.
    return all([not any([upper in above[kind] for upper in thing[:at]]) for at, kind in enumerate(thing)])


def won_by(generic, order, call):
    """The label of the method that wins the call by an ORDER, or "none"."""
    return _won_by(Table(generic), order, call)


def _won_by(table, order, call):
    places = {kind: place for place, kind in enumerate(order)}
    fits = table.fitting(call)
    rows = sorted([([places[kind] for kind in table.shape_of(label)], label) for label in fits])
    return rows[0][1] if rows else "none"


def forced(generic, wish):
    """The ascending list of the pairs of kinds (ahead, behind) by which a WISH is fulfilled; raises NotFitting."""
    return _forced(Table(generic), wish)


def _forced(table, wish):
    call, label = wish
    fits = table.fitting(call)
    if label not in fits:
        raise NotFitting(call, label)
    return _forced_among(table, fits, label)


def _forced_among(table, fits, label):
    """The pairs by which one of the methods that fit a call wins it."""
    own = table.shape_of(label)
    return sorted(set([_first_unlike(own, table.shape_of(other)) for other in fits if other != label]))


def _first_unlike(one, other):
    return [(kind, behind) for kind, behind in zip(one, other) if kind != behind][0]


def _forced_by_all(table, wishes):
    return [pair for wish in wishes for pair in _forced(table, wish)]


def order_for(generic, wishes):
    """The least ORDER that fulfils all of the WISHes, or None; raises NotFitting for the first that does not fit."""
    table = Table(generic)
    standing = standing_of(table.above).also(_forced_by_all(table, wishes))
    return None if standing is None else standing.least_order()


def ring(generic, wishes):
    """None if there is an ORDER for all of the WISHes, otherwise the least shortest RING; raises NotFitting."""
    table = Table(generic)
    return shortest_ring(nexts_of(table.above, _forced_by_all(table, wishes)))


def shows_ring(generic, wishes, thing):
    """Whether thing is a RING of any length; raises NotFitting."""
    table = Table(generic)
    nexts = nexts_of(table.above, _forced_by_all(table, wishes))
    return are_names_of(nexts, thing) and is_ring(nexts, thing)


def cannot(generic, wishes):
    """None if all WISHes can be had, otherwise the least smallest set of them that cannot; raises NotFitting."""
    table = Table(generic)
    standing = standing_of(table.above)
    pairs = {wish: _forced(table, wish) for wish in frozen(wishes)}
    if standing.also(_joined(pairs, pairs)) is not None:
        return None
    return _fewest_that_cannot(standing, pairs)


def _joined(pairs, wishes):
    return [pair for wish in wishes for pair in pairs[wish]]


def _fewest_that_cannot(standing, pairs):
    wishes = sorted(pairs)
    for size in range(1, len(wishes)):
        for some in combinations(wishes, size):
            if standing.also(_joined(pairs, some)) is None:
                return some
    return tuple(wishes)


def winners(generic, call):
    """The ascending list of the labels of the methods by which some ORDER lets the call be won."""
    table = Table(generic)
    standing = standing_of(table.above)
    fits = table.fitting(call)
    return [label for label in fits if standing.also(_forced_among(table, fits, label)) is not None]


def settled(generic):
    """The ascending list of the torn calls that are won by the same method by every ORDER."""
    return [call for call in torn(generic) if len(winners(generic, call)) == 1]


def choices(generic):
    """How many different ways there are in which ORDERs let all calls be won."""
    table = Table(generic)
    # What the same methods fit is won by the same one.
    sets = sorted(set([tuple(table.fitting(call)) for call in shapes(generic)]))
    rows = [[_forced_among(table, fits, label) for label in fits] for fits in sets if fits]
    return _count_ways(standing_of(table.above), rows)


def _count_ways(standing, rows):
    # Whatever holds together can be had by some ORDER, so each way that is begun here comes to an end.
    if not rows:
        return 1
    begun = [standing.also(pairs) for pairs in rows[0]]
    return sum([_count_ways(more, rows[1:]) for more in begun if more is not None])


def unlike(generic, order, other):
    """The least call that two ORDERs let be won by unlike methods, or None."""
    table = Table(generic)
    for call in shapes(generic):
        if _won_by(table, order, call) != _won_by(table, other, call):
            return call
    return None
