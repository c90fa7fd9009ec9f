"""Promise [4]: KINDS, SHAPEs, GENERICs; and what [2] says of a thing."""

import unittest

from tests import samples
from tests.samples import BARE, BOTH, DEEP, EMPTY, KINDS, NAMED, NOTHING, ONE, SIDE, SWAPPED, THREE
from whichmethod.data import common, is_below, is_generic, is_kinds, shapes


def nested(depth, kernel, kind=tuple):
    """A value with kernel at the bottom of so many tuples or lists."""
    for _ in range(depth):
        kernel = kind([kernel])
    return kernel


# What is neither KINDS nor GENERIC, of every sort of value.
OTHERS = [
    None, True, False, 0, 1, -1, "", "a", "kinds", (), [], ((),), [[]], (None,), (1, 2, 3), ("a", (), False),
    nested(12, "a"), nested(12, 1, list), nested(11, ()), ((None, None, None),), "abc", ("abc",), ("abc", "abc", "abc"),
    ((), 1, ()), (None, 1, ()), (True, True, True), (KINDS,), (KINDS, 1), (KINDS, 1, (), ()), (1, KINDS, ()),
]


class Kinds(unittest.TestCase):
    def check(self, wanted, *things):
        for thing in things:
            with self.subTest(thing=thing):
                self.assertIs(is_kinds(thing), wanted)

    def test_kinds(self):
        self.check(True, KINDS, *[generic[0] for generic in NAMED])

    def test_one_kind(self):
        self.check(True, (("a", (), False),), (("a", (), True),))

    def test_none_at_all(self):
        self.check(False, ())

    def test_names_have_one_to_eight_letters(self):
        self.check(True, (("z", (), False),), (("abcdefgh", (), False),), (("none", (), False), ("torn", (), True)))
        self.check(False, (("", (), False),), (("abcdefghi", (), False),))

    def test_names_have_letters_from_a_to_z_alone(self):
        for name in ("A", "aB", "a1", "a b", " a", "a\n", "a_b", "`", "{", "\xe9", "\u0131", "\uff41", "a-", "5"):
            self.check(False, ((name, (), False),))

    def test_names_are_strings(self):
        for name in (1, None, True, ("a",), ["a"], (), []):
            self.check(False, ((name, (), False),))

    def test_names_differ(self):
        self.check(False, (("a", (), False), ("a", (), False)))
        self.check(False, (("a", (), False), ("b", (), True), ("a", ("b",), True)))

    def test_a_list_in_the_place_of_a_tuple(self):
        self.check(False, list(KINDS), (["a", (), False],), (("a", [], False),), samples.as_lists(KINDS))
        self.check(False, (("a", (), False), ("b", ["a"], False)), (("a", (), False), ["b", ("a",), False]))

    def test_rows_are_triples(self):
        self.check(False, (("a", ()),), (("a", (), False, False),), (("a",),), ((),), ("a",), ("abc",), (None,), (3,))
        self.check(False, (("a", (), False), ("b", ("a",))))

    def test_bare_is_true_or_false(self):
        for bare in (0, 1, None, "", "bare", "True", (), (True,), [False], 2, -1):
            self.check(False, (("a", (), bare),), (("a", (), False), ("b", ("a",), bare)))
        self.check(True, (("a", (), True), ("b", (), False), ("c", ("a",), True)))

    def test_supers_are_rows_ahead(self):
        self.check(True, (("b", (), False), ("a", ("b",), False)))
        self.check(False, (("a", ("b",), False), ("b", (), False)))
        self.check(False, (("a", ("a",), False),), (("a", ("z",), False),))
        self.check(False, (("a", (), False), ("b", ("a", "c"), False), ("c", (), False)))

    def test_supers_ascend(self):
        pair = (("a", (), False), ("b", (), False))
        self.check(True, pair + (("c", ("a", "b"), False),))
        self.check(False, pair + (("c", ("b", "a"), False),))

    def test_supers_ascend_by_name_not_by_row(self):
        pair = (("b", (), False), ("a", (), False))
        self.check(True, pair + (("c", ("a", "b"), False),))
        self.check(False, pair + (("c", ("b", "a"), False),))

    def test_no_super_twice(self):
        pair = (("a", (), False), ("b", (), False))
        self.check(False, pair + (("c", ("a", "a"), False),), pair + (("c", ("a", "b", "b"), False),))

    def test_supers_are_a_tuple_of_names(self):
        row = ("a", (), False)
        wrong = ("a", None, False, 0, 1, (1,), (None,), (True,), (("a",),), (["a"],), ((),), ("a", None), ("a", 1))
        for supers in wrong:
            self.check(False, (row, ("b", supers, False)))
        self.check(False, (("a", "", False),))

    def test_a_super_may_be_above_another_super(self):
        self.check(True, (("a", (), False), ("b", ("a",), False), ("c", ("a", "b"), False)))

    def test_other_values(self):
        self.check(False, *OTHERS, THREE)

    def test_values_nested_twelve_levels_deep(self):
        for kind in (tuple, list):
            deep = nested(9, "a", kind)
            self.check(False, ((deep, (), False),), (("a", deep, False),), (("a", (), deep),), (deep,))
            self.check(False, nested(12, "a", kind), nested(9, KINDS, kind), KINDS + (nested(11, 1, kind),))

    def test_more_kinds_than_the_bounds_name(self):
        names = [one + other for one in "abcdefgh" for other in "abcdefgh"]
        kinds = tuple((name, tuple(names[max(0, at - 3):at]), at % 3 == 0) for at, name in enumerate(names))
        self.check(True, kinds)
        self.check(False, kinds + (("aa", (), False),))
        self.check(False, kinds + (("zz", ("zy",), False),))


class Generics(unittest.TestCase):
    def check(self, wanted, *things):
        for thing in things:
            with self.subTest(thing=thing):
                self.assertIs(is_generic(thing), wanted)

    def methods(self, wanted, *rows, places=1):
        self.check(wanted, (KINDS, places, tuple(rows)))

    def test_generics(self):
        self.check(True, *NAMED, samples.CUBE)

    def test_no_methods(self):
        self.check(True, (KINDS, 1, ()), (KINDS, 3, ()))

    def test_wrong_kinds(self):
        self.check(False, ((), 1, ()), (((),), 1, ()), ((("a", ("b",), False),), 1, ()), (None, 1, ()), ("a", 1, ()))
        self.check(False, ((("a", (), 0),), 1, (("p", ("a",)),)))

    def test_places_are_a_number_from_one(self):
        for places in (0, -1, True, False, None, "1", (1,), [1], ()):
            self.check(False, (KINDS, places, ()))
        for places in (True, "1", (1,)):
            self.check(False, (KINDS, places, (("p", ("a",)),)))
        self.check(True, (KINDS, 1, ()), (KINDS, 2, ()), (KINDS, 10**30, ()))

    def test_it_is_a_triple(self):
        self.check(False, (KINDS, 1), (KINDS, 1, (), ()), (KINDS,), KINDS, (), (1, KINDS, ()))

    def test_lists_in_the_place_of_tuples(self):
        self.check(False, list(THREE), (list(KINDS), 1, ()), (KINDS, 1, []), samples.as_lists(THREE))
        self.check(False, (KINDS, 1, [("p", ("a",))]))
        self.methods(False, ["p", ("a",)])
        self.methods(False, ("p", ["a"]))
        self.methods(False, ("p", ("a",)), ("q", ["b"]))
        self.check(False, ((("a", [], False),), 1, ()), ((["a", (), False],), 1, ()))

    def test_methods_are_a_tuple_of_pairs(self):
        for methods in (None, 0, False, "", "p", "pa", ("p",), ("pa",), (None,), (1,), ((),), (("p",),), ("p", ("a",))):
            self.check(False, (KINDS, 1, methods))
        self.methods(False, ("p", ("a",), False))

    def test_labels_are_names(self):
        for label in ("", "P", "p1", "abcdefghi", "a b", None, 1, True, ("p",), ["p"], ()):
            self.methods(False, (label, ("a",)))
        self.methods(True, ("abcdefgh", ("a",)))

    def test_labels_none_and_torn(self):
        self.methods(False, ("none", ("a",)))
        self.methods(False, ("torn", ("a",)))
        self.methods(False, ("m", ("a",)), ("none", ("b",)))
        self.methods(False, ("m", ("a",)), ("torn", ("b",)))
        self.methods(True, ("non", ("a",)), ("nones", ("b",)), ("tor", ("c",)), ("torns", ("d",)))

    def test_labels_may_be_names_of_kinds(self):
        self.methods(True, ("a", ("b",)), ("b", ("a",)), ("c", ("c",)))

    def test_labels_ascend(self):
        self.methods(True, ("p", ("b",)), ("q", ("a",)))
        self.methods(False, ("q", ("a",)), ("p", ("b",)))

    def test_labels_differ(self):
        self.methods(False, ("p", ("a",)), ("p", ("b",)))
        self.methods(False, ("p", ("a",)), ("p", ("a",)))

    def test_shapes_differ(self):
        self.methods(False, ("p", ("a",)), ("q", ("a",)))
        self.methods(False, ("p", ("a", "b")), ("q", ("b", "a")), ("r", ("a", "b")), places=2)
        self.methods(True, ("p", ("a", "b")), ("q", ("b", "a")), places=2)

    def test_shapes_have_so_many_kinds(self):
        self.methods(False, ("p", ()))
        self.methods(False, ("p", ("a", "b")))
        self.methods(False, ("p", ("a",)), places=2)
        self.methods(False, ("p", ("a", "b", "c")), places=2)
        self.methods(True, ("p", ("a", "a", "a")), places=3)
        self.methods(False, ("p", ("a", "b")), ("q", ("a",)), places=2)

    def test_shapes_are_of_these_kinds(self):
        for kind in ("f", "z", "", "A", None, 1, False, ("a",), ["a"], ()):
            self.methods(False, ("p", (kind,)))
            self.methods(False, ("p", ("a", kind)), places=2)

    def test_shapes_are_tuples(self):
        for shape in ("a", None, 1, True, "ab"):
            self.methods(False, ("p", shape))
        self.methods(False, ("p", "ab"), places=2)

    def test_shapes_may_have_bare_kinds(self):
        self.check(True, BARE, ((("a", (), True),), 1, (("p", ("a",)),)))

    def test_other_values(self):
        self.check(False, *OTHERS)

    def test_values_nested_twelve_levels_deep(self):
        for kind in (tuple, list):
            deep = nested(8, "a", kind)
            self.check(False, (deep, 1, ()), (KINDS, deep, ()), (KINDS, 1, deep), (KINDS, 1, (("p", deep),)))
            self.check(False, (KINDS, 1, ((deep, ("a",)),)), (KINDS, 1, (("p", (deep,)),)), nested(7, THREE, kind))

    def test_more_than_the_bounds_name(self):
        names = [one + other for one in "abcd" for other in "abcd"]
        kinds = tuple((name, (), False) for name in names)
        methods = tuple((name, (name,) * 5) for name in names)
        self.check(True, (kinds, 5, methods))
        self.check(False, (kinds, 4, methods), (kinds, 5, methods + (("zz", ("aa",) * 5),)))


class Below(unittest.TestCase):
    def test_the_example(self):
        self.assertIs(is_below(KINDS, "e", "a"), True)

    def test_itself(self):
        self.assertIs(is_below(KINDS, "a", "a"), True)
        self.assertIs(is_below(ONE[0], "only", "only"), True)

    def test_a_super_and_what_is_above_it(self):
        self.assertIs(is_below(KINDS, "c", "a"), True)
        self.assertIs(is_below(KINDS, "e", "d"), True)
        self.assertIs(is_below(KINDS, "e", "b"), True)

    def test_not_the_other_way(self):
        self.assertIs(is_below(KINDS, "a", "c"), False)
        self.assertIs(is_below(KINDS, "a", "e"), False)

    def test_not_beside(self):
        self.assertIs(is_below(KINDS, "a", "b"), False)
        self.assertIs(is_below(KINDS, "c", "d"), False)

    def test_bare_kinds_are_kinds(self):
        self.assertIs(is_below(BARE[0], "y", "z"), True)
        self.assertIs(is_below(BARE[0], "y", "x"), False)

    def test_every_two_of_small_kinds(self):
        for kinds in samples.small_kinds(("d", "b", "a", "c")):
            for one in "abcd":
                for other in "abcd":
                    wanted = samples.kind_below(kinds, one, other)
                    self.assertIs(is_below(kinds, one, other), wanted, (kinds, one, other))

    def test_two_shapes_at_each_place(self):
        self.assertIs(is_below(KINDS, ("e", "c"), ("a", "c")), True)
        self.assertIs(is_below(KINDS, ("e", "c"), ("a", "d")), False)
        self.assertIs(is_below(KINDS, ("a", "c"), ("e", "c")), False)

    def test_a_long_row_of_kinds(self):
        names = "abcdefghijkl"
        kinds = tuple((name, tuple(names[max(0, at - 1):at]), False) for at, name in enumerate(names))
        self.assertIs(is_below(kinds, "l", "a"), True)
        self.assertIs(is_below(kinds, "a", "l"), False)


class Shapes(unittest.TestCase):
    def test_one_place(self):
        self.assertEqual(shapes(THREE), [("a",), ("b",), ("c",), ("d",), ("e",)])

    def test_they_ascend_by_name_not_by_row(self):
        self.assertEqual(shapes(SIDE), [("a", "a"), ("a", "t"), ("t", "a"), ("t", "t")])

    def test_one_kind(self):
        self.assertEqual(shapes(ONE), [("only",)])
        self.assertEqual(shapes(NOTHING), [("only",)])

    def test_bare_kinds_are_in_them(self):
        self.assertEqual(shapes(BARE), [("x",), ("y",), ("z",)])

    def test_three_places(self):
        self.assertEqual(len(shapes(EMPTY)), 8)
        self.assertEqual(shapes(EMPTY)[1:4], [("a", "a", "b"), ("a", "b", "a"), ("a", "b", "b")])
        self.assertEqual(shapes(DEEP), samples.all_shapes_of(DEEP))

    def test_512(self):
        found = shapes(samples.CUBE)
        self.assertEqual(len(found), 512)
        self.assertEqual(found, samples.all_shapes_of(samples.CUBE))


class Common(unittest.TestCase):
    def test_the_examples(self):
        self.assertEqual(common(KINDS, ("a",), ("b",)), [("c",), ("d",)])
        self.assertEqual(common(KINDS, ("c",), ("d",)), [("e",)])

    def test_of_comparable_ones_the_lower_one(self):
        self.assertEqual(common(KINDS, ("a",), ("c",)), [("c",)])
        self.assertEqual(common(KINDS, ("e",), ("a",)), [("e",)])
        self.assertEqual(common(KINDS, ("a", "e"), ("a", "b")), [("a", "e")])

    def test_none(self):
        self.assertEqual(common(samples.WIDE[0], ("a",), ("b",)), [])
        self.assertEqual(common(samples.WIDE[0], ("a", "x"), ("a", "y")), [])
        self.assertEqual(common(samples.WIDE[0], ("x", "a"), ("y", "a")), [])

    def test_several_places(self):
        self.assertEqual(
            common(KINDS, ("a", "b"), ("b", "a")), [("c", "c"), ("c", "d"), ("d", "c"), ("d", "d")]
        )
        self.assertEqual(common(KINDS, ("a", "c", "a"), ("b", "d", "a")), [("c", "e", "a"), ("d", "e", "a")])

    def test_they_ascend_by_name_not_by_row(self):
        kinds = (("z", (), False), ("y", (), False), ("x", ("y", "z"), False), ("w", ("y", "z"), True))
        self.assertEqual(common(kinds, ("z",), ("y",)), [("w",), ("x",)])

    def test_bare_kinds_are_parts(self):
        kinds = (("a", (), False), ("b", (), True), ("c", ("a", "b"), True))
        self.assertEqual(common(kinds, ("a",), ("b",)), [("c",)])

    def test_every_two_shapes_of_small_kinds(self):
        for kinds in samples.small_kinds(("c", "a", "d", "b")):
            self.check((kinds, 1, ()))
        for kinds in samples.small_kinds(("b", "c", "a")):
            self.check((kinds, 2, ()))

    def check(self, generic):
        found = samples.all_shapes_of(generic)
        for one in found:
            for other in found:
                wanted = samples.common_parts(generic, one, other)
                self.assertEqual(common(generic[0], one, other), wanted, (generic, one, other))

    def test_eight_kinds_at_three_places(self):
        kinds = samples.CUBE[0]
        self.assertEqual(
            common(kinds, ("g", "f", "d"), ("f", "e", "c")), [("d", "b", "a")]
        )
        wide = tuple((name, (), False) for name in "ab") + tuple((name, ("a", "b"), False) for name in "cdefgh")
        self.assertEqual(len(common(wide, ("a",) * 3, ("b",) * 3)), 216)


class Named(unittest.TestCase):
    def test_labels_and_kinds_with_one_name_are_told_apart(self):
        self.assertEqual(common(SWAPPED[0], ("torn", "none"), ("none", "torn")), [("b", "b")])
        self.assertIs(is_below(SWAPPED[0], "a", "torn"), True)

    def test_without_methods_all_the_same(self):
        self.assertEqual(shapes(BOTH), shapes((KINDS, 1, ())))


if __name__ == "__main__":
    unittest.main()
