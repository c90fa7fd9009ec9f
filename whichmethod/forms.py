"""The forms of plain values: numbers, NAMEs, labels, ascending tuples."""

LONGEST_NAME = 8

# What chosen answers for a call without a winner, so no method may be called so.
ANSWERS = ("none", "torn")


def frozen(value):
    """The value, with tuples in the place of lists at every depth."""
    if isinstance(value, (list, tuple)):
        return tuple([frozen(part) for part in value])
    return value


def is_number(thing):
    """Whether thing is an int that is not a bool."""
    return isinstance(thing, int) and not isinstance(thing, bool)


def is_name(thing):
    """Whether thing is a NAME."""
    if not isinstance(thing, str) or not 1 <= len(thing) <= LONGEST_NAME:
        return False
    return all(["a" <= letter <= "z" for letter in thing])


def is_label(thing):
    """Whether a method can have this label."""
    return is_name(thing) and thing not in ANSWERS


def are_names_of(names, thing):
    """Whether thing is a tuple of NAMEs that are keys of a dict."""
    # Only a NAME is looked up, as a thing may hold lists, which no dict can be asked for.
    return isinstance(thing, tuple) and all([is_name(name) and name in names for name in thing])


def is_tuple_of(size, thing):
    """Whether thing is a tuple with so many members."""
    return isinstance(thing, tuple) and len(thing) == size


def is_ascending(row):
    """Whether each member of a tuple or list is less than the next one."""
    return all([one < other for one, other in zip(row, row[1:])])
