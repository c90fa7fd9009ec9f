"""What may come with later kinds: calls torn between two methods, and the partings that keep them from it."""

from whichmethod.below import every_choice, uppers
from whichmethod.data import is_kinds
from whichmethod.forms import are_names_of, frozen, is_tuple_of
from whichmethod.hitting import least_hitting
from whichmethod.pair import Pair, are_apart, partings_in, partings_of
from whichmethod.proof import least_proof
from whichmethod.table import Table

LETTERS = "abcdefghijklmnopqrstuvwxyz"


def is_parting(generic, thing):
    """Whether thing is a PARTING."""
    above = uppers(generic[0])
    if not is_tuple_of(2, thing) or not are_names_of(above, thing):
        return False
    one, other = thing
    # Of two comparable kinds one is below both, so these need no test of their own.
    return one < other and are_apart(above, one, other)


def unsafe(generic, partings):
    """The ascending list of the pairs of labels that some LATER tears which keeps the PARTINGs."""
    return [labels for labels, pair in _all_pairs(generic) if pair.reason(partings, pair.columns()) is None]


def _all_pairs(generic):
    """For each two methods their labels, the lesser one first, and their Pair; ascending."""
    table = Table(generic)
    names = [label for label, shape in table.methods]
    return [((one, other), Pair(table, one, other)) for one in names for other in names if one < other]


def tearing(generic, partings, label, other):
    """None if no LATER that keeps the PARTINGs tears the two; otherwise (later, call) with as few rows as can be."""
    table = Table(generic)
    pair = Pair(table, label, other)
    if pair.reason(partings, pair.columns()) is not None:
        return None
    names = _fresh_names(table.above, len(pair.one))
    # With a later kind of its own at each place there always is a call, so one of these turns ends.
    many = 1
    found = _tearing_with(pair, partings, names[:many])
    while found is None:
        many += 1
        found = _tearing_with(pair, partings, names[:many])
    return found


def _fresh_names(above, many):
    """So many NAMEs that no kind has."""
    names = [first + second for first in LETTERS for second in LETTERS]
    return [name for name in names if name not in above][:many]


def _tearing_with(pair, partings, names):
    """A pair (later, call) with later kinds of some of these names, or None."""
    for call in every_choice([names + column for column in pair.greatest()]):
        used = [name for name in names if name in call]
        # A later kind is below no more than it must be at its places: so the fewest methods fit the call.
        later = [(name, tuple(pair.supers(_places_of(name, call))), False) for name in used]
        if used and _is_torn(pair, partings, later, call):
            return (tuple(later), call)
    return None


def _places_of(name, call):
    return [place for place, kind in enumerate(call) if kind == name]


def _is_torn(pair, partings, later, call):
    above = dict(pair.above)
    for name, supers, _ in later:
        above[name] = {upper: True for kind in supers for upper in above[kind]}
    return pair.reason(partings, [above[kind] for kind in call]) is None


def tears(generic, partings, label, other, thing):
    """Whether thing is a pair as tearing tells, with any number of rows."""
    table = Table(generic)
    # Asked for their SHAPEs only to raise for the first label that names no method.
    table.shape_of(label)
    table.shape_of(other)
    if not is_tuple_of(2, thing):
        return False
    later, call = thing
    kinds, places, methods = frozen(generic)
    if not _is_later(kinds, partings, later):
        return False
    longer = Table((kinds + later, places, methods))
    if not is_tuple_of(places, call) or not are_names_of(longer.above, call):
        return False
    if all([kind in table.above for kind in call]):
        return False
    near = longer.nearest(call)
    return label in near and other in near


def _is_later(kinds, partings, thing):
    """Whether thing is a LATER behind these kinds that keeps the PARTINGs."""
    if not isinstance(thing, tuple) or not is_kinds(kinds + thing):
        return False
    above = uppers(kinds + thing)
    return not any([partings_in(partings, above[row[0]]) for row in thing])


def safe_by(generic, partings, label, other):
    """None if some LATER that keeps the PARTINGs tears the two; otherwise the method, or the parting, against it."""
    pair = Pair(Table(generic), label, other)
    return pair.reason(partings, pair.columns())


def barred(generic):
    """The ascending list of the pairs of labels that are unsafe with all PARTINGs."""
    return unsafe(generic, partings_of(uppers(generic[0])))


def fewest_partings(generic):
    """The least tuple of as few PARTINGs as can be with which no pair is unsafe; None if some pair is barred."""
    partings = partings_of(uppers(generic[0]))
    rows = list(_helping_partings(generic, partings).values())
    if 0 in rows:
        return None
    return tuple([partings[number] for number in least_hitting(rows)])


def _helping_partings(generic, partings):
    """For each pair of labels that is unsafe without PARTINGs the set of those that help it; ascending."""
    return {
        labels: pair.helping(partings)
        for labels, pair in _all_pairs(generic)
        if pair.reason((), pair.columns()) is None
    }


def paper(generic):
    """The least tuple of as few pairs of labels as can be that need as many PARTINGs; None if some pair is barred."""
    helping = _helping_partings(generic, partings_of(uppers(generic[0])))
    labels = list(helping)
    rows = list(helping.values())
    if 0 in rows:
        return None
    return tuple([labels[number] for number in least_proof(rows)])
