"""Two methods, and what keeps each call from being torn between them."""

from whichmethod.below import greatest_kinds


def partings_of(above):
    """The ascending list of all PARTINGs; above is what uppers tells."""
    names = sorted(above)
    return [(one, other) for one in names for other in names if one < other and are_apart(above, one, other)]


def are_apart(above, one, other):
    """Whether there is no kind below both kinds."""
    return not any([one in mine and other in mine for mine in above.values()])


def partings_in(partings, uppers):
    """Those PARTINGs, as tuples, that a kind does not keep which is below all of these kinds."""
    return [(one, other) for one, other in partings if one in uppers and other in uppers]


class Pair:
    """Two methods of a GENERIC, by their labels; raises NoMethod for the first label that names none."""

    def __init__(self, table, label, other):
        self.above = table.above
        self.one = table.shape_of(label)
        self.other = table.shape_of(other)
        names = table.nearer[label] + table.nearer[other]
        # Where one of these fits, one of both is not nearest.
        self.nearer = [(name, table.shape_of(name)) for name in sorted(names)]

    def columns(self):
        """For each place a dict of all the kinds that everything is below that is below the kinds of both."""
        return [{**self.above[one], **self.above[other]} for one, other in zip(self.one, self.other)]

    def greatest(self):
        """For each place the greatest kinds of now below the kinds of both."""
        return [greatest_kinds(self.above, one, other) for one, other in zip(self.one, self.other)]

    def supers(self, places):
        """The ascending list of the kinds of both at some places, without those that another one of them is below."""
        kinds = [shape[place] for shape in (self.one, self.other) for place in places]
        higher = [upper for kind in kinds for upper in self.above[kind] if upper != kind]
        return sorted(set([kind for kind in kinds if kind not in higher]))

    def reason(self, partings, columns):
        """None if a call can be torn between both whose kind at each place is below just the kinds of its column.

        Otherwise ("method", label) or ("parting", place, parting), as safe_by tells.
        """
        names = [name for name, shape in self.nearer if all([kind in column for kind, column in zip(shape, columns)])]
        if names:
            return ("method", names[0])
        for place, column in enumerate(columns):
            found = partings_in(partings, column)
            if found:
                return ("parting", place, min(found))
        return None

    def helping(self, partings):
        """The set of the numbers of those PARTINGs of a list that keep both from being torn: a bit for each."""
        columns = self.columns()
        many = 0
        for number, parting in enumerate(partings):
            if any([partings_in([parting], column) for column in columns]):
                many = many | 1 << number
        return many
