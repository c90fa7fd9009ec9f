"""Which kinds must stand ahead of which in an ORDER."""


def standing_of(above):
    """What holds of all ORDERs: each kind stands ahead of all others that it is below; above is what uppers tells."""
    numbers = {name: number for number, name in enumerate(sorted(above))}
    behind = [sum([1 << numbers[upper] for upper in above[name] if upper != name]) for name in numbers]
    return Standing(numbers, behind)


class Standing:
    """For each kind the set of the kinds that must stand behind it, with all that follows: a number, a bit for each."""

    def __init__(self, numbers, behind):
        self.numbers = numbers
        self.behind = behind

    def also(self, pairs):
        """The same where some pairs of kinds (ahead, behind) hold, too; None if no ORDER fulfils all this."""
        behind = self.behind
        for ahead, later in pairs:
            one = self.numbers[ahead]
            other = self.numbers[later]
            if behind[other] >> one & 1:
                return None
            # What has the one behind it has the other behind it, too, and all that is behind this.
            more = behind[other] | 1 << other
            behind = [mask | more if number == one or mask >> one & 1 else mask for number, mask in enumerate(behind)]
        return Standing(self.numbers, behind)

    def least_order(self):
        """The least ORDER by comparison that fulfils all this."""
        left = list(self.numbers)
        order = []
        while left:
            # There always is one, as no kind stands behind itself.
            first = [name for name in left if not any([self._is_ahead(other, name) for other in left])][0]
            left.remove(first)
            order.append(first)
        return tuple(order)

    def _is_ahead(self, one, other):
        return self.behind[self.numbers[one]] >> self.numbers[other] & 1 == 1
