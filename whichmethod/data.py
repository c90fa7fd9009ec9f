"""KINDS, SHAPEs and GENERICs: what they are, and what is below what."""

from whichmethod.below import every_choice, greatest_kinds, is_shape_below, uppers
from whichmethod.forms import are_names_of, is_ascending, is_label, is_name, is_number, is_tuple_of


def is_kinds(thing):
    """Whether thing is KINDS."""
    if not isinstance(thing, tuple) or not thing:
        return False
    ahead = {}
    for row in thing:
        if not _is_row(row, ahead):
            return False
        ahead[row[0]] = True
    return True


def _is_row(thing, ahead):
    if not is_tuple_of(3, thing):
        return False
    name, supers, is_bare = thing
    if not is_name(name) or name in ahead or not isinstance(is_bare, bool):
        return False
    return are_names_of(ahead, supers) and is_ascending(supers)


def is_generic(thing):
    """Whether thing is a GENERIC."""
    if not is_tuple_of(3, thing):
        return False
    kinds, places, methods = thing
    if not is_kinds(kinds) or not is_number(places) or places < 1:
        return False
    return _are_methods(kinds, places, methods)


def _are_methods(kinds, places, thing):
    names = {row[0]: True for row in kinds}
    if not isinstance(thing, tuple) or not all([_is_method(names, places, row) for row in thing]):
        return False
    if not is_ascending([label for label, shape in thing]):
        return False
    return len(set([shape for label, shape in thing])) == len(thing)


def _is_method(names, places, thing):
    if not is_tuple_of(2, thing):
        return False
    label, shape = thing
    return is_label(label) and is_tuple_of(places, shape) and are_names_of(names, shape)


def is_below(kinds, one, other):
    """Whether one of two kinds, or of two SHAPEs, is below the other."""
    above = uppers(kinds)
    if isinstance(one, str):
        return other in above[one]
    return is_shape_below(above, one, other)


def shapes(generic):
    """The ascending list of all SHAPEs of a GENERIC."""
    kinds, places, _ = generic
    names = sorted([row[0] for row in kinds])
    return every_choice([names] * places)


def common(kinds, one, other):
    """The ascending list of the greatest common parts of two SHAPEs."""
    above = uppers(kinds)
    return every_choice([greatest_kinds(above, kind, unlike) for kind, unlike in zip(one, other)])
