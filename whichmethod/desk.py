"""A desk: the text of a GENERIC with requests behind it, and the answers to these."""

from whichmethod.change import hidden, with_method, without
from whichmethod.choose import chosen, nearest, torn
from whichmethod.errors import BadLine, Doubled, NoMethod, NotFitting, NotNeeded
from whichmethod.forms import are_names_of, is_label, is_tuple_of
from whichmethod.later import fewest_partings, unsafe
from whichmethod.mend import chain, lost, mend
from whichmethod.orders import order_for, ring
from whichmethod.texts import generic_of


def answers(text):
    """The list of the answers to the requests of a text; raises BadLine(number) ahead of all of them."""
    lines = text.split("\n")
    head = lines[: lines.index("")] if "" in lines else lines
    generic = generic_of(head)
    if "" not in lines:
        raise BadLine(len(lines))
    requests = [line.split(" ") for line in lines[len(head) + 1 :]]
    for number, words in enumerate(requests):
        if not _is_request(generic, words):
            raise BadLine(len(head) + 1 + number)
    desk = Desk(generic)
    return [desk.answer(words) for words in requests]


def _is_request(generic, words):
    """Whether the words of a line are a request for a GENERIC."""
    match words:
        case ["torn" | "mend" | "lost" | "unsafe" | "partings" | "order" | "ring" | "hidden"]:
            return True
        case ["choose" | "chain", *shape]:
            return _is_shape(generic, shape)
        case ["wish" | "add", label, *shape]:
            return is_label(label) and _is_shape(generic, shape)
        case ["drop", label]:
            return is_label(label)
    return False


def _is_shape(generic, words):
    kinds, places, _ = generic
    shape = tuple(words)
    return is_tuple_of(places, shape) and are_names_of({row[0]: True for row in kinds}, shape)


class Desk:
    """A GENERIC that requests change, and the wishes that are kept."""

    def __init__(self, generic):
        self.generic = generic
        self.wishes = []

    def answer(self, words):
        """The answer to a request; what it changes is changed from now on."""
        try:
            return self._done(words)
        except NoMethod:
            return "refused NoMethod"
        except NotNeeded:
            return "refused NotNeeded"
        except Doubled:
            return "refused Doubled"
        except NotFitting:
            return "refused NotFitting"

    def _done(self, words):
        match words:
            case ["wish", label, *shape]:
                # A method for it may still be added, so whether it fits is only asked when it counts.
                self.wishes.append((tuple(shape), label))
            case ["add", label, *shape]:
                self.generic = with_method(self.generic, label, shape)
            case ["drop", label]:
                self.generic = without(self.generic, label)
            case _:
                return _told(self.generic, self.wishes, words)
        return "done"


def _told(generic, wishes, words):
    """The answer to a request that changes nothing."""
    match words:
        case ["choose", *shape]:
            return _choice(generic, shape)
        case ["torn"]:
            return _listed(" ", torn(generic))
        case ["mend"]:
            return _listed(" ", mend(generic))
        case ["lost"]:
            return _listed(" ", lost(generic))
        case ["chain", *shape]:
            return _listed(" ", chain(generic, shape))
        case ["unsafe"]:
            return _listed("+", unsafe(generic, []))
        case ["partings"]:
            return _partings(generic)
        case ["order"]:
            return _words_or_none(order_for(generic, wishes))
        case ["ring"]:
            return _words_or_none(ring(generic, wishes))
    return _joined(" ", hidden(generic))


def _choice(generic, shape):
    answer = chosen(generic, shape)
    if answer == "torn":
        return " ".join(["torn", *nearest(generic, shape)])
    return answer


def _partings(generic):
    found = fewest_partings(generic)
    return "impossible" if found is None else _listed("+", found)


def _words_or_none(kinds):
    return "none" if kinds is None else " ".join(kinds)


def _listed(sign, rows):
    """SHAPEs or pairs, each with this sign between its words."""
    return _joined(", ", [sign.join(row) for row in rows])


def _joined(sign, words):
    return sign.join(words) if words else "-"
