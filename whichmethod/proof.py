"""Why no fewer members hit all rows: as few of the rows as can be that need just as many.

Rows and sets of members are numbers as in hitting.py, and so are sets of rows: a bit for each row's number.
"""

from whichmethod.hitting import as_members, hits_within, least_hitting, size_of, without_wider


def least_proof(rows):
    """The ascending list of the numbers of as few rows as can be that need as many members as all; the least such.

    No row is empty.
    """
    if not rows:
        return []
    firsts = {}
    for number, row in enumerate(rows):
        # Of equal rows the first one does for all.
        firsts.setdefault(row, number)
    search = Search(list(firsts))
    return [firsts[search.rows[number]] for number in search.least()]


class Search:
    """A search for proofs: sets of rows that need as many members as all rows. There are rows, and all are unlike."""

    def __init__(self, rows):
        self.rows = rows
        few = least_hitting(rows)
        self.needed = len(few)
        whole = sum([1 << member for member in few])
        # For sets of too few members, the rows that each of them does not hit: a proof has one of these.
        # The sets to begin with lack one member of a set that is enough, so that no row is in two of these walls.
        self.walls = [self._missed(whole ^ 1 << member) for member in few]

    def least(self):
        """The ascending list of the numbers of the rows of the least of the smallest proofs."""
        # Each member that is needed takes a row at least.
        size = self.needed
        found = self._proof(0, 0, size)
        while found is None:
            size += 1
            found = self._proof(0, 0, size)
        chosen = 0
        passed = 0
        while size_of(chosen) < size:
            # What was passed is chosen, or must be left out: passed + 1 is the bit of the next row.
            bit = passed + 1
            passed = passed | bit
            other = found if found & bit else self._proof(chosen | bit, passed, size - size_of(chosen) - 1)
            if other is not None:
                chosen = chosen | bit
                found = other
        return as_members(chosen)

    def _proof(self, chosen, passed, most):
        """The chosen rows with at most so many others, none of them passed, if some such are a proof; or None."""
        free = self._free(passed)
        if self._too_few_for(chosen | free) is not None:
            return None
        picked = self._beside(chosen, free, most)
        while picked is not None and not self._try_out(chosen | picked, free):
            picked = self._beside(chosen, free, most)
        return None if picked is None else chosen | picked

    def _free(self, passed):
        """The rows that were not passed, without those that another one is part of: that one does as well."""
        left = {row: 1 << number for number, row in enumerate(self.rows) if not passed >> number & 1}
        return sum([left[row] for row in without_wider(list(left))])

    def _beside(self, chosen, free, most):
        """At most so many of the free rows that hit each wall beside the chosen ones, or None."""
        return hits_within(without_wider([wall & free for wall in self.walls if not wall & chosen]), most)

    def _try_out(self, picked, free):
        """Whether some rows are a proof; if not, there are more walls from now on, and they do not hit the first."""
        few = self._too_few_for(picked)
        is_proof = few is None
        while few is not None:
            wall = self._missed(self._grown(few))
            self.walls.append(wall)
            # With a further row the next wall speaks against more sets of rows than these alone.
            picked = picked | (wall & free & -(wall & free))
            few = self._too_few_for(picked)
        return is_proof

    def _too_few_for(self, picked):
        """A set of fewer members than all rows need that hits the picked ones, or None."""
        return hits_within([self.rows[number] for number in as_members(picked)], self.needed - 1)

    def _missed(self, many):
        """The set of the rows that a set of members does not hit."""
        missed = 0
        for number, row in enumerate(self.rows):
            if not row & many:
                missed = missed | 1 << number
        return missed

    def _grown(self, many):
        """A set of members with further ones, as many in all as are too few, that hit what rows they can."""
        for _ in range(self.needed - 1 - size_of(many)):
            missed = [row for row in self.rows if not row & many]
            width = max([row.bit_length() for row in missed])
            hits = [len([row for row in missed if row >> number & 1]) for number in range(width)]
            many = many | 1 << hits.index(max(hits))
        return many
