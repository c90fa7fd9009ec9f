"""GENERICs as texts, a line for each kind and each method."""

from whichmethod.data import is_generic, is_kinds
from whichmethod.errors import BadLine

MOST_DIGITS = 4


def generic_text(generic):
    """The text of a GENERIC."""
    kinds, places, methods = generic
    rows = [["generic", str(places)]]
    for name, supers, is_bare in kinds:
        start = ["bare", "kind"] if is_bare else ["kind"]
        rows.append([*start, name, *supers])
    for label, shape in methods:
        rows.append(["method", label, *shape])
    return "\n".join([" ".join(row) for row in rows])


def generic_in(text):
    """The GENERIC with this text, which may be any string; raises BadLine(number)."""
    return generic_of(text.split("\n"))


def generic_of(lines):
    """The GENERIC whose lines these are; raises BadLine(number)."""
    begun = ((), 0, ())
    for number, line in enumerate(lines):
        begun = _with_line(begun, line.split(" "))
        if begun is None:
            raise BadLine(number)
    if not begun[0]:
        raise BadLine(len(lines))
    return begun


def _with_line(begun, words):
    """What the lines ahead tell, and a line of these words, as a triple; None if it cannot stand there."""
    match words:
        case ["generic", digits]:
            return _with_places(begun, digits)
        case ["kind", name, *supers]:
            return _with_kind(begun, (name, tuple(supers), False))
        case ["bare", "kind", name, *supers]:
            return _with_kind(begun, (name, tuple(supers), True))
        case ["method", label, *shape]:
            return _with_row(begun, (label, tuple(shape)))
    return None


def _with_places(begun, digits):
    kinds, places, methods = begun
    # Where there are no places yet, this is the first line.
    if places or not _is_places(digits):
        return None
    return (kinds, int(digits), methods)


def _is_places(word):
    if not 1 <= len(word) <= MOST_DIGITS or word[0] == "0":
        return False
    # Other letters that are digits, too, are not meant.
    return all(["0" <= letter <= "9" for letter in word])


def _with_kind(begun, row):
    kinds, places, methods = begun
    more = kinds + (row,)
    if not places or methods or not is_kinds(more):
        return None
    return (more, places, methods)


def _with_row(begun, row):
    kinds, places, methods = begun
    more = (kinds, places, methods + (row,))
    return more if is_generic(more) else None
