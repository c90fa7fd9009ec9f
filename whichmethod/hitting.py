"""Smallest sets that hit all rows: that have a member in common with each of them.

Members are numbers from 0; a row, or a set of members, is a number with a bit for each.
"""


def as_members(row):
    """The ascending list of the members of a row."""
    return [number for number in range(row.bit_length()) if row >> number & 1]


def hits_within(rows, most):
    """A set of at most so many members that hits all rows, or None if there is none, as where a row is empty."""
    if not rows:
        return 0
    narrow = sorted(rows, key=size_of)
    if _count_apart(narrow) > most:
        return None
    tried = 0
    for number in as_members(narrow[0]):
        bit = 1 << number
        # What was tried without success is not tried again beside another member.
        found = hits_within([row & ~tried for row in narrow if not row & bit], most - 1)
        if found is not None:
            return found | bit
        tried = tried | bit
    return None


def size_of(row):
    """How many members a row has."""
    many = 0
    while row:
        # The least member is taken away.
        row = row & row - 1
        many += 1
    return many


def _count_apart(rows):
    """How many rows are found of which no two have a common member: so many members are needed at least."""
    taken = 0
    count = 0
    for row in rows:
        if not row & taken:
            taken = taken | row
            count += 1
    return count


def least_hitting(rows):
    """The ascending list of the members of a smallest set that hits all rows, none of them empty; the least such."""
    left = without_wider(rows)
    most = 0
    while hits_within(left, most) is None:
        most += 1
    found = []
    number = 0
    while left:
        # The first bit of each row stands for this number: those that were passed over have been shifted out.
        rest = [row >> 1 for row in left if not row & 1]
        left = [row >> 1 for row in left]
        if hits_within(rest, most - len(found) - 1) is not None:
            found.append(number)
            left = rest
        number += 1
    return found


def without_wider(rows):
    """The rows without those that another one is part of, as these are hit anyway."""
    kept = []
    for row in sorted(sorted(set(rows)), key=size_of):
        if not any([other & row == other for other in kept]):
            kept.append(row)
    return kept
