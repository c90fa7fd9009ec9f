"""GENERICs for the tests, and what the document's definitions say of them, word for word and slowly."""

import itertools

# The document's own.
KINDS = (
    ("a", (), False),
    ("b", (), False),
    ("c", ("a", "b"), False),
    ("d", ("a", "b"), False),
    ("e", ("c", "d"), False),
)
THREE = (KINDS, 1, (("p", ("a",)), ("q", ("b",)), ("r", ("c",))))
BOTH = (KINDS, 1, (("p", ("a",)), ("q", ("b",))))
SIDE = ((("t", (), False), ("a", ("t",), False)), 2, (("p", ("a", "t")), ("q", ("t", "a"))))
WIDE = (
    (("a", (), False), ("b", (), False), ("x", (), False), ("y", (), False)),
    2,
    (("p", ("a", "x")), ("q", ("b", "y"))),
)
THINGS = (
    (("a", (), True), ("c", ("a",), False), ("d", ("a",), False)),
    1,
    (("p", ("a",)), ("q", ("c",)), ("r", ("d",))),
)

# One kind, with and without a method; bare kinds alone; no methods over several places.
ONE = ((("only", (), False),), 1, (("m", ("only",)),))
NOTHING = ((("only", (), False),), 1, ())
BARE = ((("z", (), True), ("y", ("z",), True), ("x", ("z",), True)), 1, (("p", ("y",)), ("q", ("x",))))
EMPTY = ((("b", (), False), ("a", ("b",), True)), 3, ())

# Labels that are names of kinds, kinds called as the answers of chosen, and rows not in the order of names.
SWAPPED = (
    (("torn", (), False), ("none", (), True), ("b", ("none", "torn"), False), ("a", ("b", "none"), False)),
    2,
    (("a", ("torn", "none")), ("b", ("none", "torn")), ("z", ("a", "b"))),
)

# Three places, and a method that parts the calls of two others at each.
DEEP = (
    (("t", (), False), ("m", ("t",), False), ("l", ("m",), False)),
    3,
    (("p", ("m", "t", "t")), ("q", ("t", "m", "t")), ("r", ("t", "t", "m")), ("s", ("l", "l", "l"))),
)

# Eight kinds at three places and seven methods: the 512 calls of the bounds.
CUBE = (
    (
        ("h", (), False),
        ("g", ("h",), False),
        ("f", ("h",), False),
        ("e", ("h",), True),
        ("d", ("f", "g"), False),
        ("c", ("e", "g"), False),
        ("b", ("e", "f"), False),
        ("a", ("b", "c", "d"), False),
    ),
    3,
    (
        ("k", ("d", "h", "h")),
        ("l", ("h", "d", "h")),
        ("m", ("e", "e", "e")),
        ("n", ("g", "f", "h")),
        ("o", ("h", "g", "f")),
        ("p", ("f", "h", "g")),
        ("q", ("a", "a", "a")),
    ),
)

NAMED = [THREE, BOTH, SIDE, WIDE, THINGS, ONE, NOTHING, BARE, EMPTY, SWAPPED, DEEP]


def small_kinds(names):
    """All KINDS with these names in this order; every second kind is bare."""
    choices = []
    for number in range(len(names)):
        ahead = sorted(names[:number])
        choices.append([row for size in range(number + 1) for row in itertools.combinations(ahead, size)])
    for supers in itertools.product(*choices):
        yield tuple((name, row, number % 2 == 1) for number, (name, row) in enumerate(zip(names, supers)))


def small_generics():
    """Many GENERICs with few kinds; the labels stand against the order of the SHAPEs in every second one."""
    for names, places, most in ((("c", "a", "d", "b"), 1, 4), (("b", "c", "a"), 2, 3)):
        all_shapes = list(itertools.product(sorted(names), repeat=places))
        sets = [row for size in range(most + 1) for row in itertools.combinations(all_shapes, size)]
        for kinds in small_kinds(names):
            for number, chosen_shapes in enumerate(sets):
                if number % 2:
                    chosen_shapes = chosen_shapes[::-1]
                yield (kinds, places, tuple(zip(("a", "m", "n", "z"), chosen_shapes)))


def as_lists(value):
    """The value with lists in the place of tuples, at every depth."""
    if isinstance(value, (list, tuple)):
        return [as_lists(part) for part in value]
    return value


# The definitions of [4] and [5].


def kind_below(kinds, one, other):
    if one == other:
        return True
    supers = {name: row for name, row, _ in kinds}
    return any(kind_below(kinds, upper, other) for upper in supers[one])


def shape_below(kinds, one, other):
    return all(kind_below(kinds, kind, upper) for kind, upper in zip(one, other))


def all_shapes_of(generic):
    return sorted(itertools.product([row[0] for row in generic[0]], repeat=generic[1]))


def greatest(kinds, found):
    return [one for one in found if not any(other != one and shape_below(kinds, one, other) for other in found)]


def common_parts(generic, one, other):
    kinds = generic[0]
    under = [part for part in all_shapes_of(generic) if shape_below(kinds, part, one)]
    return greatest(kinds, [part for part in under if shape_below(kinds, part, other)])


def fitting_labels(generic, call):
    return sorted(label for label, shape in generic[2] if shape_below(generic[0], call, shape))


def nearest_labels(generic, call):
    kinds, _, methods = generic
    fits = [(label, shape) for label, shape in methods if shape_below(kinds, call, shape)]
    return sorted(
        label for label, shape in fits if not any(low != shape and shape_below(kinds, low, shape) for _, low in fits)
    )


def torn_calls(generic):
    return [call for call in all_shapes_of(generic) if len(nearest_labels(generic, call)) > 1]


def least_meeting(generic, label, other):
    for call in all_shapes_of(generic):
        if {label, other} <= set(nearest_labels(generic, call)):
            return call
    return None


def covering_labels(generic, label, other, part):
    """The labels of all methods that cover two methods at this part."""
    kinds, _, methods = generic
    two = [shape for name, shape in methods if name in (label, other)]
    return sorted(
        name
        for name, shape in methods
        if shape_below(kinds, part, shape) and any(shape != one and shape_below(kinds, shape, one) for one in two)
    )
