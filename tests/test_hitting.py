"""Smallest hitting sets and their proofs, which the promises on PARTINGs stand on, against plain search."""

import itertools
import random
import unittest

from whichmethod.hitting import as_members, hits_within, least_hitting
from whichmethod.proof import least_proof


def all_sets(many):
    """All sets of so many members, the smaller ones ahead, ascending among those of one size."""
    return [row for size in range(many + 1) for row in itertools.combinations(range(many), size)]


def as_mask(row):
    return sum(1 << number for number in row)


def plain_least(rows, many):
    return next(list(row) for row in all_sets(many) if all(as_mask(row) & one for one in rows))


def plain_proof(rows, many):
    needed = len(plain_least(rows, many))
    fewer = [as_mask(row) for row in all_sets(many) if len(row) < needed]
    for some in all_sets(len(rows)):
        if not any(all(few & rows[number] for number in some) for few in fewer):
            return list(some)


def families(many, sizes):
    """All families of some rows with so many members."""
    rows = range(1, 2 ** many)
    return [list(family) for size in sizes for family in itertools.combinations(rows, size)]


class Smallest(unittest.TestCase):
    def check(self, rows, many):
        least = plain_least(rows, many)
        self.assertEqual(least_hitting(rows), least, rows)
        self.assertEqual(least_proof(rows), plain_proof(rows, many), rows)
        for most in range(many + 1):
            told = hits_within(rows, most)
            self.assertIs(told is not None, most >= len(least), rows)
            if told is not None:
                self.assertLessEqual(len(as_members(told)), most)
                self.assertTrue(all(told & row for row in rows))

    def test_no_rows(self):
        self.assertEqual((least_hitting([]), least_proof([]), hits_within([], 0)), ([], [], 0))

    def test_one_row(self):
        self.check([0b100], 3)
        self.check([0b110], 3)

    def test_all_families_of_a_few_rows(self):
        for rows in families(4, (2, 3)):
            self.check(rows, 4)

    def test_rows_against_their_order_and_twice(self):
        for rows in families(3, (3, 4)):
            self.check(rows[::-1], 3)
            self.check(rows + rows[::2], 3)

    def test_some_families_of_many_rows(self):
        source = random.Random(1)
        for _ in range(60):
            many = source.choice([5, 6])
            rows = [as_mask(source.sample(range(many), source.choice([1, 2, 2, 3]))) for _ in range(8)]
            self.check(rows, many)

    def test_a_ring_needs_all_its_rows(self):
        """Of a ring of five members and rows of two of them three are needed, and without any row two are enough."""
        ring = [0b00011, 0b00110, 0b01100, 0b11000, 0b10001]
        self.check(ring, 5)
        self.assertEqual((least_hitting(ring), least_proof(ring)), ([0, 1, 3], [0, 1, 2, 3, 4]))

    def test_the_size_of_the_bounds(self):
        """Twenty-one rows of two members or three: as many as seven methods have pairs."""
        source = random.Random(3)
        for _ in range(20):
            rows = [as_mask(source.sample(range(20), source.choice([2, 2, 3]))) for _ in range(21)]
            told = least_hitting(rows)
            self.assertTrue(all(as_mask(told) & row for row in rows))
            proof = [rows[number] for number in least_proof(rows)]
            self.assertEqual(len(least_hitting(proof)), len(told))
            for row in proof:
                self.assertLess(len(least_hitting([other for other in proof if other != row])), len(told))


if __name__ == "__main__":
    unittest.main()
