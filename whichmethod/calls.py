"""The calls of a GENERIC by number, for questions that go over all of them again and again."""

from whichmethod.below import every_choice, uppers
from whichmethod.forms import are_names_of, is_tuple_of


class Calls:
    """All calls; a call has a greater number than each that it is below. A set of calls is a number, a bit for each."""

    def __init__(self, generic):
        kinds, places, methods = generic
        self.places = places
        self.above = uppers(kinds)
        # A kind stands behind its supers, so the calls that a call is below come ahead of it.
        self.calls = every_choice([list(self.above)] * places)
        self.numbers = {call: number for number, call in enumerate(self.calls)}
        self.over = [self.as_set(every_choice([list(self.above[kind]) for kind in call])) for call in self.calls]
        self.methods = self.as_set([shape for label, shape in methods])

    def is_call(self, thing):
        """Whether thing is one of the calls."""
        return is_tuple_of(self.places, thing) and are_names_of(self.above, thing)

    def as_set(self, rows):
        """The set of some calls, which may be told twice."""
        many = 0
        for call in rows:
            many = many | 1 << self.numbers[tuple(call)]
        return many

    def as_list(self, many):
        """The ascending list of the calls of a set."""
        return sorted([call for call, number in self.numbers.items() if many >> number & 1])

    def winner(self, number, methods):
        """The number of the SHAPE of a call's winner, if a set of SHAPEs has methods; None if there is no winner."""
        fits = self.over[number] & methods
        # The only one that can be below all others that fit is the one with the greatest number.
        lowest = fits.bit_length() - 1
        if not fits or fits & self.over[lowest] != fits:
            return None
        return lowest

    def torn(self, methods):
        """The set of the calls that are torn if a set of SHAPEs has methods."""
        many = 0
        for number, over in enumerate(self.over):
            if over & methods and self.winner(number, methods) is None:
                many = many | 1 << number
        return many

    def greatest_torn(self, methods):
        """The set of the torn calls that are not below another torn one."""
        every = self.torn(methods)
        many = 0
        for number, over in enumerate(self.over):
            if over & every == 1 << number:
                many = many | 1 << number
        return many
