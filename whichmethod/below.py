"""Which kinds and SHAPEs are below which, from a table that is made once for many questions."""


def uppers(kinds):
    """For each kind a dict whose keys are all the kinds that it is below, itself among them."""
    above = {}
    for name, supers, _ in kinds:
        mine = {name: True}
        # A row's supers stand ahead of it, so theirs are complete already.
        for upper in supers:
            mine.update(above[upper])
        above[name] = mine
    return above


def is_shape_below(above, one, other):
    """Whether a SHAPE is below another one; above is what uppers tells."""
    return all([upper in above[kind] for kind, upper in zip(one, other)])


def greatest_kinds(above, one, other):
    """The ascending list of the greatest kinds below two kinds."""
    both = [kind for kind in above if one in above[kind] and other in above[kind]]
    return sorted([kind for kind in both if not any([upper in both for upper in above[kind] if upper != kind])])


def greatest_shapes(above, found):
    """Those of a list of SHAPEs that are not below another one of them, in their order."""
    return [shape for shape in found if not _is_below_another(above, found, shape)]


def _is_below_another(above, found, shape):
    for other in found:
        if other != shape and is_shape_below(above, shape, other):
            return True
    return False


def every_choice(columns):
    """All tuples with one member of each list: ascending if the lists are."""
    rows = [()]
    for column in columns:
        rows = [row + (member,) for row in rows for member in column]
    return rows
