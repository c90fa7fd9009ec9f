"""What the document's definitions of [6] to [12] say, by plain search over all possibilities."""

import functools
import itertools
import re

from tests import samples


def subsets(values):
    """All lists of some of the values, the shorter ones ahead, each in the order of the values."""
    values = list(values)
    return [list(row) for size in range(len(values) + 1) for row in itertools.combinations(values, size)]


@functools.lru_cache(maxsize=None)
def below_pairs(kinds):
    """All pairs (kind, kind it is below)."""
    names = [row[0] for row in kinds]
    return {(one, other) for one in names for other in names if samples.kind_below(kinds, one, other)}


def is_shape_below(kinds, one, other):
    pairs = below_pairs(kinds)
    return all(pair in pairs for pair in zip(one, other))


def nearest_shapes(kinds, shapes, call):
    """Those of some SHAPEs whose methods would be nearest to a call."""
    fits = [shape for shape in shapes if is_shape_below(kinds, call, shape)]
    return [one for one in fits if not any(low != one and is_shape_below(kinds, low, one) for low in fits)]


def shapes_of(generic):
    return [shape for _, shape in generic[2]]


# [6]


def torn_calls(generic, more=()):
    """The torn calls once there are methods for further SHAPEs."""
    kinds = generic[0]
    shapes = shapes_of(generic) + [shape for shape in more if shape not in shapes_of(generic)]
    return [call for call in samples.all_shapes_of(generic) if len(nearest_shapes(kinds, shapes, call)) > 1]


def greatest_torn(generic, more=()):
    return samples.greatest(generic[0], torn_calls(generic, more))


def mending_sets(generic):
    """All sets of SHAPEs that mend."""
    return [row for row in subsets(samples.all_shapes_of(generic)) if not torn_calls(generic, row)]


def stages(generic):
    found = []
    more = []
    stage = greatest_torn(generic)
    while stage:
        found.append(stage)
        more = more + stage
        stage = greatest_torn(generic, more)
    return found


def mend(generic):
    return sorted(shape for stage in stages(generic) for shape in stage)


def without(generic, label):
    kinds, places, methods = generic
    return (kinds, places, tuple(row for row in methods if row[0] != label))


def who(generic):
    """For each SHAPE of mend the labels that who tells."""
    left = {label: mend(without(generic, label)) for label, _ in generic[2]}
    return {shape: [label for label in left if shape not in left[label]] for shape in mend(generic)}


def lost(generic):
    kinds = generic[0]
    more = mend(generic)
    found = []
    for call in samples.all_shapes_of(generic):
        now = nearest_shapes(kinds, shapes_of(generic), call)
        then = nearest_shapes(kinds, shapes_of(generic) + more, call)
        if len(now) == 1 and then != now:
            found.append(call)
    return found


# [7]


def partings(generic):
    kinds = generic[0]
    pairs = below_pairs(kinds)
    names = sorted(row[0] for row in kinds)
    return [
        (one, other)
        for one, other in itertools.combinations(names, 2)
        if (one, other) not in pairs and (other, one) not in pairs
        and not any((low, one) in pairs and (low, other) in pairs for low in names)
    ]


def laters(kinds, rows):
    """All LATERs with so many rows, but for their names and for what is bare."""
    found = [()]
    for number in range(rows):
        found = [
            later + ((f"new{'abc'[number]}", tuple(supers), False),)
            for later in found
            for supers in subsets(sorted([row[0] for row in kinds + later]))
        ]
    return found


def keeps(kinds, later, kept):
    pairs = below_pairs(kinds + later)
    return not any((row[0], one) in pairs and (row[0], other) in pairs for row in later for one, other in kept)


def torn_by(generic, later):
    """The pairs of labels that a LATER tears."""
    kinds, places, methods = generic
    longer = kinds + later
    new = {row[0] for row in later}
    label_of = {shape: label for label, shape in methods}
    found = set()
    for call in itertools.product([row[0] for row in longer], repeat=places):
        if new & set(call):
            labels = sorted(label_of[shape] for shape in nearest_shapes(longer, shapes_of(generic), call))
            found.update(itertools.combinations(labels, 2))
    return found


class Laters:
    """All LATERs for a GENERIC with as many rows as it has places, and what each tears."""

    def __init__(self, generic):
        self.kinds = generic[0]
        self.partings = partings(generic)
        self.rows = []
        for size in range(1, generic[1] + 1):
            for later in laters(self.kinds, size):
                broken = {row for row in self.partings if not keeps(self.kinds, later, [row])}
                self.rows.append((size, broken, torn_by(generic, later)))
        below_pairs.cache_clear()

    def unsafe(self, kept):
        """For each pair of labels that is unsafe with some PARTINGs the fewest rows of a LATER that tears it."""
        found = {}
        for size, broken, torn in self.rows:
            if not broken & set(kept):
                for pair in torn:
                    found.setdefault(pair, size)
        return found

    def fewest(self):
        if self.unsafe(self.partings):
            return None
        return min(((len(row), tuple(row)) for row in subsets(self.partings) if not self.unsafe(row)))[1]

    def paper(self):
        fewest = self.fewest()
        if fewest is None:
            return None
        fewer = [set(self.unsafe(row)) for row in subsets(self.partings) if len(row) < len(fewest)]
        proofs = [tuple(row) for row in subsets(sorted(self.unsafe([]))) if all(set(row) & left for left in fewer)]
        return min((len(row), row) for row in proofs)[1]


# [8] and [9]


def orders(kinds):
    """All ORDERs, ascending."""
    pairs = [(one, other) for one, other in below_pairs(kinds) if one != other]
    names = sorted(row[0] for row in kinds)
    return [
        order
        for order in itertools.permutations(names)
        if all(order.index(one) < order.index(other) for one, other in pairs)
    ]


def won_by(generic, order, call):
    kinds, _, methods = generic
    fits = [(label, shape) for label, shape in methods if is_shape_below(kinds, call, shape)]
    for label, shape in fits:
        if all(is_first(order, shape, other) for _, other in fits if other != shape):
            return label
    return "none"


def is_first(order, one, other):
    place = [number for number, kind in enumerate(one) if kind != other[number]][0]
    return order.index(one[place]) < order.index(other[place])


def forced(generic, wish):
    call, label = wish
    kinds, _, methods = generic
    own = dict(methods)[label]
    found = set()
    for other, shape in methods:
        if other != label and is_shape_below(kinds, call, shape):
            place = [number for number, kind in enumerate(own) if kind != shape[number]][0]
            found.add((own[place], shape[place]))
    return sorted(found)


def wishes_of(generic):
    """All WISHes, ascending."""
    return [
        (call, label)
        for call in samples.all_shapes_of(generic)
        for label in samples.fitting_labels(generic, call)
    ]


def fulfilling(generic, wishes):
    """All ORDERs that fulfil some WISHes, ascending."""
    return [
        order for order in orders(generic[0]) if all(won_by(generic, order, call) == label for call, label in wishes)
    ]


def rings(generic, wishes):
    """All RINGs, the shorter ones ahead, ascending among those of one length."""
    kinds = generic[0]
    ahead = {pair for pair in below_pairs(kinds) if pair[0] != pair[1]}
    for wish in wishes:
        ahead.update(forced(generic, wish))
    names = sorted(row[0] for row in kinds)
    return [
        ring
        for size in range(2, len(names) + 1)
        for ring in itertools.permutations(names, size)
        if all(pair in ahead for pair in zip(ring, ring[1:] + ring[:1]))
    ]


def cannot(generic, wishes):
    for some in subsets(sorted(set(wishes))):
        if not fulfilling(generic, some):
            return tuple(some)
    return None


def ways(generic):
    """The different ways in which ORDERs let all calls be won."""
    calls = samples.all_shapes_of(generic)
    return {tuple(won_by(generic, order, call) for call in calls) for order in orders(generic[0])}


# [10]


def chosen(generic, call):
    near = samples.nearest_labels(generic, call)
    return "none" if not near else near[0] if len(near) == 1 else "torn"


def live_calls(generic):
    live = {name for name, _, is_bare in generic[0] if not is_bare}
    return [call for call in samples.all_shapes_of(generic) if set(call) <= live]


def asking_pairs(generic, place):
    """All pairs of calls that are unlike at this place alone, and of which unlike things are told; ascending."""
    told = {call: chosen(generic, call) for call in samples.all_shapes_of(generic)}
    return [
        (one, other)
        for one, other in itertools.combinations(told, 2)
        if [at for at in range(generic[1]) if one[at] != other[at]] == [place] and told[one] != told[other]
    ]


def hidden(generic):
    told = {chosen(generic, call) for call in live_calls(generic)}
    return [label for label, _ in generic[2] if label not in told]


def hiding_sets(generic, label):
    """All sets of other labels that hide a method, the smaller ones ahead, ascending among those of one size."""
    kinds, _, methods = generic
    own = dict(methods)[label]
    calls = [call for call in live_calls(generic) if is_shape_below(kinds, call, own)]
    hides = {
        other: {call for call in calls if is_shape_below(kinds, call, shape)}
        for other, shape in methods
        if other != label and (is_shape_below(kinds, shape, own) or not is_shape_below(kinds, own, shape))
    }
    return [tuple(row) for row in subsets(sorted(hides)) if set(calls) <= set().union(*[hides[name] for name in row])]


# [11] and [12]

NAME = "[a-z]{1,8}"
LABEL = f"(?!(?:none|torn)(?: |$)){NAME}"


def bad_line(lines):
    """The number of the first line of a GENERIC that is not so written or cannot stand there; None if there is none."""
    for number, line in enumerate(lines):
        if not _can_stand(lines[:number], line):
            return number
    if not any(_words_of(line, "kind") for line in lines):
        return len(lines)
    return None


def _words_of(line, word):
    """The words behind this one, in a line that begins with it, or with bare and it."""
    words = line.removeprefix("bare ").split(" ")
    return words[1:] if words[0] == word else []


def _can_stand(ahead, line):
    """Whether a line can stand behind those ahead, all of which are well written."""
    kinds = [_words_of(row, "kind")[0] for row in ahead if _words_of(row, "kind")]
    methods = [_words_of(row, "method") for row in ahead if _words_of(row, "method")]
    if re.fullmatch("generic [1-9][0-9]{0,3}", line):
        return not ahead
    if re.fullmatch(f"(bare )?kind {NAME}( {NAME})*", line):
        name, *supers = _words_of(line, "kind")
        known = set(supers) <= set(kinds) and name not in kinds
        return bool(ahead) and not methods and known and supers == sorted(set(supers))
    if re.fullmatch(f"method {LABEL}( {NAME})+", line):
        label, *shape = _words_of(line, "method")
        fits = bool(ahead) and len(shape) == int(ahead[0].split(" ")[1]) and set(shape) <= set(kinds)
        return fits and all(row[0] < label and row[1:] != shape for row in methods)
    return False


def bad_desk_line(text):
    """The number that BadLine has for the text of a desk, or None."""
    lines = text.split("\n")
    end = lines.index("") if "" in lines else len(lines)
    bad = bad_line(lines[:end])
    if bad is not None:
        return bad
    if end == len(lines):
        return end
    places = int(lines[0].split(" ")[1])
    kinds = [_words_of(row, "kind")[0] for row in lines[:end] if _words_of(row, "kind")]
    shape = f"(?: (?:{'|'.join(kinds)})){{{places}}}"
    plain = "torn|mend|lost|unsafe|partings|order|ring|hidden"
    request = f"{plain}|(?:choose|chain){shape}|(?:wish|add) {LABEL}{shape}|drop {LABEL}"
    for number in range(end + 1, len(lines)):
        if not re.fullmatch(request, lines[number]):
            return number
    return None
