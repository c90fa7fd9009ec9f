"""Promise [7]: what may come with later kinds; and guarantee (c) of [1]."""

import itertools
import unittest

from tests import plain, samples
from tests.samples import BARE, BOTH, CUBE, DEEP, EMPTY, KINDS, NAMED, NOTHING, ONE, SIDE, SWAPPED, THINGS, THREE, WIDE
from tests.test_mend import TORN, mended
from whichmethod.choose import nearest, torn
from whichmethod.data import is_generic, is_kinds
from whichmethod.errors import NoMethod
from whichmethod.later import (
    barred,
    fewest_partings,
    is_parting,
    paper,
    safe_by,
    tearing,
    tears,
    unsafe,
)


def unlike_kinds(names):
    return tuple((name, (), False) for name in names)


# Five methods for kinds that have nothing below them: ten pairs, each with a PARTING of its own.
FIVE = (unlike_kinds("abcde"), 1, tuple((f"m{name}", (name,)) for name in "abcde"))

# Two places, and one of three PARTINGs is enough, or two of three.
ROWS = (
    unlike_kinds("abcd"),
    2,
    (("p", ("a", "c")), ("q", ("b", "d")), ("r", ("a", "d"))),
)

# One PARTING, of the kinds above, helps several pairs.
ABOVE = (
    unlike_kinds("tu") + (("a", ("t",), False), ("b", ("t",), False), ("x", ("u",), False), ("y", ("u",), False)),
    1,
    (("p", ("a",)), ("q", ("b",)), ("r", ("x",)), ("s", ("y",))),
)

# Of the two kinds at the first place one is below both, of those at the second there is none: one row, or two.
OLD = (
    (("a", (), False), ("b", (), False), ("c", ("a", "b"), False), ("x", (), False), ("y", (), False)),
    2,
    (("p", ("a", "x")), ("q", ("b", "y"))),
)

# A nearer method fits what a later kind for both places at once serves for, and one what is below c at the first.
TWO_ROWS = (
    (("x", (), False), ("y", (), False), ("a", ("x",), False), ("b", (), False), ("c", ("a", "b"), False)),
    2,
    (("p", ("a", "x")), ("q", ("b", "y")), ("r", ("a", "a")), ("s", ("c", "x"))),
)

# For each two places there is a nearer method that fits what one later kind for both serves for.
THREE_ROWS = (
    (
        ("c", (), False),
        ("b", ("c",), False),
        ("a", ("b",), False),
        ("d", (), False),
        ("e", (), False),
        ("f", (), False),
    ),
    3,
    (
        ("p", ("a", "b", "c")),
        ("q", ("d", "e", "f")),
        ("r", ("a", "a", "c")),
        ("s", ("a", "b", "a")),
        ("t", ("a", "b", "b")),
    ),
)

# The methods s and u part p and q whatever comes. So does r not, as it is below neither, and leaves both nearest.
PARTED = (
    (
        ("t", (), False),
        ("a", ("t",), False),
        ("b", ("t",), False),
        ("x", (), False),
        ("w", ("x",), False),
        ("y", ("w",), False),
    ),
    2,
    (("p", ("a", "x")), ("q", ("b", "y")), ("r", ("t", "y")), ("s", ("a", "y")), ("u", ("a", "w"))),
)

# Each method is below the one ahead of it.
ROW = ((("t", (), False), ("a", ("t",), True), ("b", ("a",), False)), 1, (("p", ("t",)), ("q", ("a",)), ("r", ("b",))))


class IsParting(unittest.TestCase):
    def check(self, wanted, generic, *things):
        for thing in things:
            with self.subTest(thing=thing):
                self.assertIs(is_parting(generic, thing), wanted)

    def test_two_kinds_with_nothing_below_both(self):
        self.check(True, WIDE, ("a", "b"), ("x", "y"), ("a", "x"), ("b", "y"))
        self.check(True, THINGS, ("c", "d"))
        self.check(True, BARE, ("x", "y"))

    def test_a_kind_below_both(self):
        self.check(False, THREE, ("a", "b"), ("c", "d"))
        self.check(False, OLD, ("a", "b"))

    def test_comparable_kinds(self):
        self.check(False, THREE, ("a", "c"), ("b", "e"), ("d", "e"))
        self.check(False, THINGS, ("a", "c"), ("a", "d"))
        self.check(False, SIDE, ("a", "t"))

    def test_it_ascends_by_name(self):
        self.check(False, WIDE, ("b", "a"), ("y", "x"), ("x", "a"))
        self.check(False, BARE, ("y", "x"))

    def test_one_kind_twice(self):
        self.check(False, WIDE, ("a", "a"))
        self.check(False, ONE, ("only", "only"), ("only",))

    def test_other_kinds(self):
        self.check(False, WIDE, ("a", "z"), ("", "a"), ("A", "b"), ("c", "d"), ("p", "q"))

    def test_lists(self):
        self.check(False, WIDE, ["a", "b"], (["a"], "b"), [["a", "b"]])
        self.assertIs(is_parting(samples.as_lists(WIDE), ("a", "b")), True)

    def test_other_values(self):
        deep = "a"
        for _ in range(12):
            deep = (deep,)
        others = (None, True, False, 0, 1, -1, "", "ab", (), [], ("a",), ("a", "b", "x"), (("a", "b"),), ((), ()), deep)
        self.check(False, WIDE, *others, (None, "b"), ("a", None), (1, 2), ("a", 1), (True, False), ("a", ("b",)))
        self.check(False, WIDE, (("a",), ("b",)), ("a", ["b"]), (deep[0], "b"), ("a", deep[0]), ([], []))

    def test_all_pairs(self):
        for generic in NAMED:
            names = [row[0] for row in generic[0]]
            found = [row for row in itertools.product(names, repeat=2) if is_parting(generic, row)]
            self.assertEqual(sorted(found), plain.partings(generic))


class Unsafe(unittest.TestCase):
    def test_the_examples(self):
        self.assertEqual(unsafe(WIDE, []), [("p", "q")])
        self.assertEqual(unsafe(WIDE, [("x", "y")]), [])
        self.assertEqual(unsafe(THREE, []), [("p", "q")])
        self.assertEqual(unsafe(SIDE, []), [("p", "q")])

    def test_fewer_than_two_methods(self):
        for generic in (ONE, NOTHING, EMPTY):
            self.assertEqual(unsafe(generic, []), [])

    def test_any_other_parting_does_not_help(self):
        self.assertEqual(unsafe(WIDE, [("a", "x"), ("a", "y"), ("b", "x"), ("b", "y")]), [("p", "q")])
        self.assertEqual(unsafe(WIDE, [("a", "x"), ("a", "b")]), [])

    def test_a_parting_of_kinds_above(self):
        self.assertEqual(len(unsafe(ABOVE, [])), 6)
        self.assertEqual(unsafe(ABOVE, [("t", "u")]), [("p", "q"), ("r", "s")])
        self.assertEqual(unsafe(ABOVE, [("a", "b"), ("t", "u"), ("x", "y")]), [])
        self.assertEqual(unsafe(ABOVE, [("t", "x"), ("a", "u")]), [("p", "q"), ("q", "s"), ("r", "s")])

    def test_a_torn_call_of_now(self):
        self.assertEqual(unsafe(DEEP, []), [("p", "q"), ("p", "r"), ("q", "r")])
        self.assertEqual(unsafe(SWAPPED, []), [("a", "b")])

    def test_nothing_torn_now_and_yet_unsafe(self):
        again = mended(THREE)
        self.assertEqual(torn(again), [])
        self.assertIn(("p", "q"), unsafe(again, []))

    def test_a_method_that_parts_them_whatever_comes(self):
        self.assertEqual(unsafe(PARTED, []), [("q", "s")])
        self.assertEqual(unsafe(ROW, []), [])

    def test_ascending_and_each_lesser_one_first(self):
        kinds = unlike_kinds("abc")
        generic = (kinds, 1, (("p", ("c",)), ("q", ("a",)), ("r", ("b",))))
        self.assertEqual(unsafe(generic, []), [("p", "q"), ("p", "r"), ("q", "r")])
        self.assertEqual(unsafe(generic, [("a", "c")]), [("p", "r"), ("q", "r")])

    def test_a_parting_twice_and_in_any_order(self):
        self.assertEqual(unsafe(ABOVE, [("x", "y"), ("t", "u"), ("x", "y"), ("a", "b")]), [])

    def test_bare_kinds(self):
        self.assertEqual(unsafe(BARE, []), [("p", "q")])
        self.assertEqual(unsafe(BARE, [("x", "y")]), [])


class Tearing(unittest.TestCase):
    def check(self, generic, partings, label, other, rows):
        told = tearing(generic, partings, label, other)
        self.assertIs(type(told), tuple)
        later, call = told
        self.assertEqual(len(later), rows, told)
        self.assertIs(tears(generic, partings, label, other, told), True, told)
        self.check_by_hand(generic, partings, label, other, later, call)

    def check_by_hand(self, generic, partings, label, other, later, call):
        kinds, places, methods = generic
        longer = (kinds + later, places, methods)
        self.assertIs(is_kinds(kinds + later), True)
        self.assertLessEqual({label, other}, set(nearest(longer, call)))
        self.assertTrue({row[0] for row in later} & set(call))
        self.assertTrue(plain.keeps(kinds, later, partings))

    def test_one_row(self):
        self.check(THREE, [], "p", "q", 1)
        self.check(SIDE, [], "q", "p", 1)
        self.check(DEEP, [], "p", "r", 1)
        self.check(BARE, [], "p", "q", 1)

    def test_a_kind_of_now_or_a_shared_one_saves_a_row(self):
        self.check(WIDE, [], "p", "q", 1)
        self.check(OLD, [], "p", "q", 1)

    def test_a_shared_one_breaks_a_parting(self):
        self.check(WIDE, [("a", "x")], "p", "q", 2)
        self.check(WIDE, [("a", "y"), ("b", "x")], "q", "p", 2)
        self.check(OLD, [("a", "x"), ("b", "y")], "p", "q", 1)

    def test_two_rows(self):
        self.check(TWO_ROWS, [], "p", "q", 2)

    def test_three_rows(self):
        self.check(THREE_ROWS, [], "p", "q", 3)
        kinds = unlike_kinds("abcdef")
        generic = (kinds, 3, (("p", ("a", "b", "c")), ("q", ("d", "e", "f"))))
        self.check(generic, [], "p", "q", 1)
        self.check(generic, [("a", "b")], "p", "q", 2)
        self.check(generic, [("a", "e"), ("b", "c"), ("d", "f")], "p", "q", 3)

    def test_a_kind_of_now_at_one_of_three_places(self):
        kinds = unlike_kinds("abdefg") + (("c", ("a", "b"), False),)
        generic = (kinds, 3, (("p", ("a", "d", "e")), ("q", ("b", "f", "g"))))
        self.check(generic, [], "p", "q", 1)
        self.check(generic, [("d", "e")], "p", "q", 2)
        self.check(generic, [("a", "d"), ("a", "e"), ("d", "e")], "p", "q", 2)
        swapped = (kinds, 3, (("p", ("d", "e", "a")), ("q", ("f", "g", "b"))))
        self.check(swapped, [("a", "d"), ("a", "e"), ("d", "e")], "p", "q", 2)

    def test_no_super_of_a_later_kind_is_above_another(self):
        for generic in (SIDE, DEEP, SWAPPED):
            kinds, _, methods = generic
            for _, supers, _ in tearing(generic, [], methods[0][0], methods[1][0])[0]:
                for one, other in itertools.permutations(supers, 2):
                    self.assertFalse(samples.kind_below(kinds, one, other))

    def test_none(self):
        self.assertIsNone(tearing(THREE, [], "p", "r"))
        self.assertIsNone(tearing(THREE, [], "r", "p"))
        self.assertIsNone(tearing(WIDE, [("x", "y")], "p", "q"))
        self.assertIsNone(tearing(WIDE, [("a", "b"), ("a", "x")], "p", "q"))
        self.assertIsNone(tearing(PARTED, [], "p", "q"))

    def test_names_that_are_taken(self):
        letters = "abcdefghijklmnopqrstuvwxyz"
        for names in (letters[:20], ["aa", "ab", "ac", "ad"], ["later", "new", "aaa", "n"], ["ab", "aa", "ba", "bb"]):
            kinds = unlike_kinds(names)
            one, other = names[0], names[1]
            self.check((kinds, 2, (("p", (one, other)), ("q", (other, one)))), [], "p", "q", 1)
            self.check((kinds, 2, (("p", (one, one)), ("q", (other, other)))), [], "p", "q", 1)

    def test_again_with_the_later_kinds(self):
        kinds, places, methods = WIDE
        for partings in ([], [("a", "x")]):
            later, _ = tearing(WIDE, partings, "p", "q")
            self.check((kinds + later, places, methods), partings, "p", "q", 1)

    def test_every_unsafe_pair_has_one_and_no_other(self):
        for generic in NAMED + TORN + [FIVE, ROWS, ABOVE, OLD, TWO_ROWS, THREE_ROWS, PARTED]:
            found = plain.partings(generic)
            for partings in ([], found[:1], found[1:], found):
                pairs = unsafe(generic, partings)
                for label, other in itertools.combinations([row[0] for row in generic[2]], 2):
                    told = tearing(generic, partings, label, other)
                    self.assertIs(told is not None, (label, other) in pairs, (generic, partings, label, other))
                    if told is not None:
                        self.check_by_hand(generic, partings, label, other, *told)


class Tears(unittest.TestCase):
    def check(self, wanted, generic, partings, *things, label="p", other="q"):
        for thing in things:
            with self.subTest(thing=thing):
                self.assertIs(tears(generic, partings, label, other, thing), wanted)
                self.assertIs(tears(generic, partings, other, label, thing), wanted)

    def test_any_names_and_bare_or_not(self):
        for name in ("f", "z", "none", "torn", "abcdefgh", "p"):
            for bare in (True, False):
                self.check(True, THREE, [], (((name, ("a", "b"), bare),), (name,)))

    def test_more_rows_than_are_needed(self):
        rows = (("f", (), False), ("g", ("a", "b"), True), ("h", ("f", "g"), False), ("i", ("e",), False))
        self.check(True, THREE, [], (rows, ("g",)), (rows, ("h",)))
        self.check(False, THREE, [], (rows, ("f",)), (rows, ("i",)))

    def test_below_a_torn_call_of_now(self):
        self.check(True, THREE, [], ((("f", ("d",), False),), ("f",)))
        self.check(False, THREE, [], ((("f", ("c",), False),), ("f",)), ((("f", ("c", "d"), False),), ("f",)))

    def test_a_later_kind_stands_in_the_call(self):
        rows = (("f", ("a", "b"), False),)
        self.check(False, THREE, [], (rows, ("d",)), ((), ("d",)), (rows, ("e",)))
        self.check(True, SIDE, [], ((("f", ("a",), False),), ("f", "a")), ((("f", ("a",), False),), ("a", "f")))
        self.check(False, SIDE, [], ((("f", ("a",), False),), ("a", "a")))

    def test_both_must_be_nearest(self):
        self.check(False, THREE, [], ((("f", ("a",), False),), ("f",)), ((("f", ("b",), False),), ("f",)))
        self.check(False, THREE, [], ((("f", (), False),), ("f",)))
        self.check(False, THREE, [], ((("f", ("a", "b"), False),), ("f",)), label="p", other="r")
        rows = (("f", ("a", "b", "x", "y"), False),)
        self.check(False, TWO_ROWS, [], (rows, ("f", "f")))

    def test_it_keeps_the_partings(self):
        rows = (("f", ("a", "b"), False), ("g", ("x", "y"), False))
        self.check(True, WIDE, [("a", "x"), ("b", "y")], (rows, ("f", "g")))
        self.check(False, WIDE, [("a", "b")], (rows, ("f", "g")))
        self.check(False, WIDE, [("a", "x"), ("x", "y")], (rows, ("f", "g")))

    def test_also_with_the_rows_that_do_not_stand_in_the_call(self):
        rows = (("f", ("a", "b"), False), ("g", ("x", "y"), False), ("h", ("a", "x"), False))
        self.check(True, WIDE, [], (rows, ("f", "g")))
        self.check(False, WIDE, [("a", "x")], (rows, ("f", "g")))
        low = (("f", ("a", "b"), False), ("g", ("x", "y"), False), ("h", ("f", "y"), False))
        self.check(False, WIDE, [("a", "y")], (low, ("f", "g")))

    def test_the_rows_stand_behind_the_kinds(self):
        self.check(False, THREE, [], ((("a", (), False),), ("a",)), ((("c", ("a", "b"), False),), ("c",)))
        self.check(False, THREE, [], ((("f", ("a", "g"), False), ("g", ("b",), False)), ("f",)))
        self.check(False, THREE, [], ((("f", ("a", "b"), False), ("f", ("a", "b"), False)), ("f",)))
        self.check(False, THREE, [], ((("f", ("b", "a"), False),), ("f",)), ((("f", ("a", "a", "b"), False),), ("f",)))
        self.check(False, THREE, [], ((("f", ("a", "b"), 0),), ("f",)), ((("F", ("a", "b"), False),), ("F",)))
        self.check(False, THREE, [], ((("f", ("a", "b")),), ("f",)), ((("f", ("a", "b", "z"), False),), ("f",)))
        self.check(False, THREE, [], ((("ninechars", ("a", "b"), False),), ("ninechars",)))

    def test_the_call_is_one_of_the_longer_kinds(self):
        rows = (("f", ("a", "b"), False),)
        self.check(False, THREE, [], (rows, ("g",)), (rows, ()), (rows, ("f", "f")), (rows, "f"), (rows, ("p",)))
        self.check(False, SIDE, [], ((("f", ("a",), False),), ("f",)), ((("f", ("a",), False),), "ff"))

    def test_lists_in_the_place_of_tuples(self):
        rows = (("f", ("a", "b"), False),)
        self.check(False, THREE, [], [rows, ("f",)], (list(rows), ("f",)), (rows, ["f"]), ((list(rows[0]),), ("f",)))
        self.check(False, THREE, [], ((("f", ["a", "b"], False),), ("f",)), samples.as_lists((rows, ("f",))))
        self.check(True, samples.as_lists(THREE), (), (rows, ("f",)))
        self.check(False, samples.as_lists(WIDE), (["a", "b"],), ((("f", ("a", "b", "x", "y"), False),), ("f", "f")))

    def test_other_values(self):
        rows = (("f", ("a", "b"), False),)
        deep = ()
        for _ in range(12):
            deep = (deep,)
        others = (None, True, False, 0, 1, "", "ab", (), [], (rows,), (rows, ("f",), 1), (None, None), ((), ()), deep)
        self.check(False, THREE, [], *others, (rows, None), (None, ("f",)), (rows, 1), ("ab", ("f",)), (1, ("f",)))
        self.check(False, THREE, [], (rows, (None,)), (rows, (("f",),)), (rows, (["f"],)), (deep, deep), (rows, deep))
        self.check(False, THREE, [], (rows + (deep,), ("f",)), (rows + (None,), ("f",)), (rows + ("f",), ("f",)))
        self.check(False, THREE, [], (((["f"], ("a", "b"), False),), ("f",)), ((("f", (["a"], "b"), False),), ("f",)))

    def test_against_the_definition(self):
        """All LATERs of one or two rows, all calls."""
        for generic in (THREE, WIDE, SIDE, OLD[:2] + (TWO_ROWS[2],), PARTED):
            kinds, places, methods = generic
            partings = plain.partings(generic)[:1]
            for later in itertools.islice(plain.laters(kinds, 1) + plain.laters(kinds, 2), 0, None, 31):
                for call in itertools.product([row[0] for row in kinds + later], repeat=places):
                    near = plain.nearest_shapes(kinds + later, [shape for _, shape in methods], call)
                    new = {row[0] for row in later} & set(call)
                    wanted = bool(new) and plain.keeps(kinds, later, partings)
                    wanted = wanted and methods[0][1] in near and methods[1][1] in near
                    self.assertIs(tears(generic, partings, "p", "q", (later, call)), wanted, (generic, later, call))


class SafeBy(unittest.TestCase):
    def test_the_examples(self):
        self.assertEqual(safe_by(THREE, [], "p", "r"), ("method", "r"))
        self.assertEqual(safe_by(WIDE, [("x", "y")], "p", "q"), ("parting", 1, ("x", "y")))

    def test_none_where_they_can_be_torn(self):
        self.assertIsNone(safe_by(THREE, [], "p", "q"))
        self.assertIsNone(safe_by(WIDE, [("a", "y")], "q", "p"))

    def test_one_of_the_two_may_be_the_method(self):
        self.assertEqual(safe_by(THREE, [], "r", "q"), ("method", "r"))
        self.assertEqual(safe_by(THINGS, [], "p", "q"), ("method", "q"))
        self.assertEqual(safe_by(THINGS, [], "r", "p"), ("method", "r"))

    def test_a_third_method(self):
        self.assertEqual(safe_by(PARTED, [], "p", "q"), ("method", "s"))
        kinds, places, methods = PARTED
        self.assertEqual(safe_by((kinds, places, methods[:3] + methods[4:]), [], "p", "q"), ("method", "u"))
        self.assertIsNone(safe_by((kinds, places, methods[:3]), [], "p", "q"))

    def test_the_least_of_several_methods(self):
        generic = (KINDS, 1, (("a", ("e",)), ("b", ("c",)), ("m", ("a",))))
        self.assertEqual(safe_by(generic, [], "a", "m"), ("method", "a"))
        generic = (KINDS, 1, (("z", ("e",)), ("b", ("c",)), ("m", ("a",)))[::-1])
        self.assertEqual(safe_by((KINDS, 1, tuple(sorted(generic[2]))), [], "z", "m"), ("method", "b"))

    def test_a_method_that_fits_but_is_below_neither_does_not_count(self):
        kinds = (("t", (), False), ("a", ("t",), False), ("b", ("t",), False))
        generic = (kinds, 1, (("k", ("t",)), ("p", ("a",)), ("q", ("b",))))
        self.assertIsNone(safe_by(generic, [], "p", "q"))
        self.assertEqual(safe_by(generic, [("a", "b")], "p", "q"), ("parting", 0, ("a", "b")))

    def test_a_method_that_is_below_but_does_not_fit_all_does_not_count(self):
        self.assertIsNone(safe_by(mended(BOTH), [], "p", "q"))
        self.assertIsNone(safe_by(TWO_ROWS, [], "p", "q"))

    def test_a_method_comes_ahead_of_a_parting(self):
        self.assertEqual(safe_by(PARTED, [("a", "b")], "p", "q"), ("method", "s"))
        self.assertEqual(safe_by(PARTED, [("a", "b")], "q", "s"), ("parting", 0, ("a", "b")))
        generic = (THINGS[0], 1, THINGS[2])
        self.assertEqual(safe_by(generic, [("c", "d")], "q", "r"), ("parting", 0, ("c", "d")))
        self.assertEqual(safe_by(generic, [("c", "d")], "q", "p"), ("method", "q"))

    def test_a_method_counts_only_if_it_does_without_the_partings(self):
        """The parting keeps them apart at the first place, and so does no method that fits what is below both."""
        kinds = unlike_kinds("ab") + (("x", (), False), ("y", (), False))
        generic = (kinds, 2, (("p", ("a", "x")), ("q", ("b", "y")), ("r", ("a", "y"))))
        self.assertIsNone(safe_by(generic, [], "p", "r"))
        self.assertEqual(safe_by(generic, [("a", "b")], "p", "q"), ("parting", 0, ("a", "b")))
        self.assertEqual(safe_by(generic, [("a", "b"), ("x", "y")], "p", "r"), ("parting", 1, ("x", "y")))

    def test_the_least_place_and_the_least_parting(self):
        self.assertEqual(safe_by(WIDE, [("x", "y"), ("a", "b")], "p", "q"), ("parting", 0, ("a", "b")))
        self.assertEqual(safe_by(WIDE, [("a", "x"), ("x", "y")], "p", "q"), ("parting", 1, ("x", "y")))
        partings = [("x", "y"), ("t", "x"), ("a", "x"), ("t", "u"), ("a", "u"), ("b", "x")]
        self.assertEqual(safe_by(ABOVE, partings, "p", "r"), ("parting", 0, ("a", "u")))
        self.assertEqual(safe_by(ABOVE, partings, "q", "r"), ("parting", 0, ("b", "x")))
        self.assertEqual(safe_by(ABOVE, partings, "q", "s"), ("parting", 0, ("t", "u")))

    def test_unsafe_tells_the_others(self):
        for generic in NAMED + TORN + [FIVE, ROWS, ABOVE, OLD, TWO_ROWS, PARTED]:
            found = plain.partings(generic)
            for partings in ([], found[:1], found[1:], found):
                pairs = itertools.combinations([row[0] for row in generic[2]], 2)
                left = [pair for pair in pairs if safe_by(generic, partings, *pair) is None]
                self.assertEqual(left, unsafe(generic, partings))


class Barred(unittest.TestCase):
    def test_the_examples(self):
        self.assertEqual(barred(THREE), [("p", "q")])

    def test_none(self):
        for generic in (WIDE, ONE, NOTHING, EMPTY, BARE, THINGS, FIVE, PARTED):
            self.assertEqual(barred(generic), [])

    def test_kinds_that_are_comparable_at_each_place(self):
        self.assertEqual(barred(SIDE), [("p", "q")])
        self.assertEqual(barred(DEEP), [("p", "q"), ("p", "r"), ("q", "r")])

    def test_some_but_not_all(self):
        kinds = KINDS + (("x", (), False),)
        generic = (kinds, 1, (("p", ("a",)), ("q", ("b",)), ("r", ("x",))))
        self.assertEqual(unsafe(generic, []), [("p", "q"), ("p", "r"), ("q", "r")])
        self.assertEqual(barred(generic), [("p", "q")])

    def test_a_kind_of_now_at_one_place_alone_bars_nothing(self):
        self.assertEqual(barred(OLD), [])
        self.assertEqual(fewest_partings(OLD), (("x", "y"),))

    def test_each_torn_pair_of_now_is_barred(self):
        for generic in TORN:
            for call in torn(generic):
                for pair in itertools.combinations(nearest(generic, call), 2):
                    self.assertIn(pair, barred(generic))


class FewestPartings(unittest.TestCase):
    def test_the_examples(self):
        self.assertEqual(fewest_partings(WIDE), (("a", "b"),))
        self.assertIsNone(fewest_partings(THREE))

    def test_none_where_a_pair_is_barred(self):
        for generic in (SIDE, BOTH, DEEP, SWAPPED):
            self.assertIsNone(fewest_partings(generic))

    def test_nothing_to_part(self):
        for generic in (ONE, NOTHING, EMPTY, ROW):
            self.assertEqual(fewest_partings(generic), ())

    def test_one_for_each_pair(self):
        self.assertEqual(fewest_partings(FIVE), tuple(itertools.combinations("abcde", 2)))
        self.assertEqual(fewest_partings(THINGS), (("c", "d"),))

    def test_one_for_several_pairs(self):
        self.assertEqual(fewest_partings(ABOVE), (("a", "b"), ("t", "u"), ("x", "y")))
        self.assertEqual(fewest_partings(ROWS), (("a", "b"), ("c", "d")))

    def test_fewer_ones_that_are_greater(self):
        kinds = unlike_kinds("abcxy")
        methods = (("p", ("a", "x")), ("q", ("b", "y")), ("r", ("c", "y")))
        self.assertEqual(unsafe((kinds, 2, methods), [("x", "y")]), [("q", "r")])
        self.assertEqual(fewest_partings((kinds, 2, methods)), (("b", "c"), ("x", "y")))

    def test_they_are_enough_and_none_can_be_spared(self):
        for generic in (FIVE, ROWS, ABOVE, OLD, WIDE, THINGS, BARE):
            told = fewest_partings(generic)
            self.assertIs(type(told), tuple)
            self.assertEqual(unsafe(generic, told), [])
            for row in told:
                self.assertIs(is_parting(generic, row), True)
                self.assertTrue(unsafe(generic, [other for other in told if other != row]))


class Paper(unittest.TestCase):
    def test_the_example(self):
        self.assertEqual(paper(WIDE), (("p", "q"),))

    def test_none_where_a_pair_is_barred(self):
        for generic in (SIDE, BOTH, DEEP, SWAPPED, THREE):
            self.assertIsNone(paper(generic))

    def test_nothing_to_part(self):
        for generic in (ONE, NOTHING, EMPTY, ROW):
            self.assertEqual(paper(generic), ())

    def test_all_pairs(self):
        self.assertEqual(paper(FIVE), tuple(itertools.combinations(["ma", "mb", "mc", "md", "me"], 2)))

    def test_some_of_the_pairs(self):
        self.assertEqual(len(unsafe(ABOVE, [])), 6)
        self.assertEqual(paper(ABOVE), (("p", "q"), ("p", "r"), ("r", "s")))
        self.assertEqual(paper(ROWS), (("p", "r"), ("q", "r")))

    def test_more_pairs_than_partings(self):
        """Three pairs each two of which one parting helps: two partings are needed, and each two pairs need but one."""
        kinds = unlike_kinds("abcdef")
        methods = (("p", ("a", "b", "c")), ("q", ("d", "e", "c")), ("r", ("d", "b", "f")))
        generic = (kinds, 3, methods)
        self.assertEqual(unsafe(generic, []), [("p", "q"), ("p", "r"), ("q", "r")])
        self.assertEqual(fewest_partings(generic), (("a", "d"), ("b", "e")))
        self.assertEqual(paper(generic), (("p", "q"), ("p", "r"), ("q", "r")))

    def test_fewer_partings_leave_one_of_them_unsafe(self):
        for generic in (FIVE, ROWS, ABOVE, OLD, WIDE, THINGS, BARE):
            many = len(fewest_partings(generic))
            for row in itertools.combinations(plain.partings(generic), many - 1):
                self.assertTrue(set(paper(generic)) & set(unsafe(generic, list(row))))


class WrongLabels(unittest.TestCase):
    THING = ((("f", ("a", "b"), False),), ("f",))

    def check(self, generic, label, other, wrong):
        for function, more in ((tearing, ()), (safe_by, ()), (tears, (self.THING,)), (tears, (None,))):
            with self.subTest(function=function.__name__, label=label, other=other):
                with self.assertRaises(LookupError) as caught:
                    function(generic, [], label, other, *more)
                self.assertIs(type(caught.exception), NoMethod)
                self.assertEqual(caught.exception.label, wrong)

    def test_the_first_one(self):
        self.check(THREE, "x", "p", "x")

    def test_the_second_one(self):
        self.check(THREE, "p", "x", "x")
        self.check(WIDE, "q", "r", "r")

    def test_both(self):
        self.check(THREE, "y", "x", "y")
        self.check(NOTHING, "z", "y", "z")

    def test_a_kind_is_no_method(self):
        self.check(THREE, "a", "p", "a")
        self.check(THREE, "p", "none", "none")
        self.check(THREE, "torn", "p", "torn")


class Whole(unittest.TestCase):
    """All that later.py tells, against all LATERs and all sets of PARTINGs."""

    def check(self, generic, every_set=True):
        found = plain.Laters(generic)
        everything = plain.subsets(found.partings)
        for partings in everything if every_set else [[], found.partings[:1], found.partings]:
            fewest = found.unsafe(partings)
            self.assertEqual(unsafe(generic, partings), sorted(fewest), (generic, partings))
            for (label, other), rows in fewest.items():
                told = tearing(generic, partings, other, label)
                self.assertEqual(len(told[0]), rows, (generic, partings, told))
                self.assertIs(tears(generic, partings, label, other, told), True, (generic, partings, told))
        self.assertEqual(barred(generic), sorted(found.unsafe(found.partings)), generic)
        self.assertEqual(fewest_partings(generic), found.fewest(), generic)
        self.assertEqual(paper(generic), found.paper(), generic)

    def test_the_named_ones(self):
        for generic in (THREE, BOTH, SIDE, WIDE, THINGS, ONE, NOTHING, BARE):
            self.check(generic)

    def test_one_place(self):
        for number, generic in enumerate(samples.small_generics()):
            if generic[1] == 1 and len(generic[2]) > 1 and number % 13 == 0:
                self.check(generic)

    def test_two_places(self):
        for number, generic in enumerate(samples.small_generics()):
            if generic[1] == 2 and len(generic[2]) > 1 and number % 43 == 0:
                self.check(generic)

    def test_four_kinds_beside_each_other(self):
        kinds = unlike_kinds("dbca")
        for chosen in itertools.islice(itertools.combinations(itertools.product("abcd", repeat=2), 3), 0, None, 160):
            self.check((kinds, 2, tuple(zip("pqr", chosen))), every_set=False)
        for many in range(2, 5):
            self.check((kinds, 1, tuple(zip("pqrs", [(kind,) for kind in "dbca"[:many]]))))

    def test_three_places(self):
        kinds = unlike_kinds("ba")
        for chosen in ((("a", "b", "a"), ("b", "a", "a")), (("a", "a", "a"), ("b", "b", "b"), ("a", "b", "b"))):
            self.check((kinds, 3, tuple(zip("pqr", chosen))), every_set=False)


class SafeByWhole(unittest.TestCase):
    """The method that safe_by tells fits all that both fit, with all LATERs of a few rows."""

    def test_small_ones(self):
        for number, generic in enumerate(samples.small_generics()):
            if len(generic[2]) > 1 and number % 61 == 0:
                self.check(generic)

    def check(self, generic):
        laters = [()] + plain.laters(generic[0], 1)
        if generic[1] == 2:
            laters = laters + plain.laters(generic[0], 2)
        partings = plain.partings(generic)
        for label, other in itertools.permutations([row[0] for row in generic[2]], 2):
            wanted = self.least_method(generic, laters, label, other)
            for kept in ([], partings[:1], partings):
                told = safe_by(generic, kept, label, other)
                self.assertEqual(told[1] if told and told[0] == "method" else None, wanted, (generic, label, other))

    def least_method(self, generic, laters, label, other):
        kinds, _, methods = generic
        shape_of = dict(methods)
        two = (shape_of[label], shape_of[other])
        for name, shape in methods:
            if any(shape != one and plain.is_shape_below(kinds, shape, one) for one in two):
                if all(self.fits_all(generic, later, shape, two) for later in laters):
                    return name
        return None

    def fits_all(self, generic, later, shape, two):
        kinds = generic[0] + later
        return all(
            plain.is_shape_below(kinds, call, shape)
            for call in itertools.product([row[0] for row in kinds], repeat=generic[1])
            if all(plain.is_shape_below(kinds, call, one) for one in two)
        )


class Bounds(unittest.TestCase):
    def test_ten_partings(self):
        self.assertEqual(len(fewest_partings(FIVE)), 10)
        self.assertEqual(len(paper(FIVE)), 10)

    def test_eight_kinds_at_two_places(self):
        kinds = unlike_kinds("abcdefgh")
        found = (("e", "b"), ("f", "h"), ("b", "d"), ("h", "d"), ("a", "e"), ("c", "h"), ("g", "f"))
        generic = (kinds, 2, tuple(zip(("pc", "pe", "pg", "tb", "tf", "vf", "wb"), found)))
        self.assertEqual(len(unsafe(generic, [])), 21)
        told = fewest_partings(generic)
        self.assertEqual((len(told), unsafe(generic, told)), (10, []))
        pairs = paper(generic)
        self.assertEqual(len(pairs), 10)
        for label, other in pairs:
            self.assertIs(tears(generic, [], label, other, tearing(generic, [], label, other)), True)

    def test_seventy_methods(self):
        eight = (CUBE[0], 2, tuple((label, shape[:2]) for label, shape in CUBE[2]))
        for generic in (mended(eight), mended(TORN[-1])):
            self.assertIs(is_generic(generic), True)
            self.assertLess(20, len(generic[2]))
            pairs = unsafe(generic, [])
            self.assertLessEqual(set(barred(generic)), set(pairs))
            for label, other in pairs[::9]:
                self.assertIs(tears(generic, [], label, other, tearing(generic, [], label, other)), True)

    def test_twelve_kinds(self):
        names = [f"k{letter}" for letter in "abcdefghijkl"]
        kinds = tuple((name, tuple(names[:2]) if at == 11 else (), False) for at, name in enumerate(names))
        generic = (kinds, 1, tuple((f"m{letter}", (f"k{letter}",)) for letter in "cdef"))
        self.assertEqual(fewest_partings(generic), tuple(itertools.combinations(["kc", "kd", "ke", "kf"], 2)))
        self.assertEqual(barred((kinds, 1, (("p", ("ka",)), ("q", ("kb",))))), [("p", "q")])

    def test_somewhat_beyond_them(self):
        kinds = unlike_kinds("abcdefgh")
        generic = (kinds, 4, (("p", tuple("abcd")), ("q", tuple("efgh"))))
        kept = [("a", "b"), ("c", "d"), ("e", "g")]
        later, call = tearing(generic, kept, "p", "q")
        self.assertEqual((len(later), tears(generic, kept, "p", "q", (later, call))), (2, True))
        six = (unlike_kinds("abcdef"), 1, tuple((f"m{name}", (name,)) for name in "abcdef"))
        self.assertEqual((len(fewest_partings(six)), len(paper(six))), (15, 15))


if __name__ == "__main__":
    unittest.main()
