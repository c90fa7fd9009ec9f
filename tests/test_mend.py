"""Promise [6]: which further methods mend a GENERIC; and guarantee (b) of [1]."""

import itertools
import unittest

from tests import plain, samples
from tests.samples import BARE, BOTH, CUBE, DEEP, EMPTY, KINDS, NAMED, NOTHING, ONE, SIDE, SWAPPED, THINGS, THREE, WIDE
from whichmethod.choose import chosen, greatest_torn, nearest, torn
from whichmethod.data import is_generic, shapes
from whichmethod.errors import NotNeeded
from whichmethod.mend import chain, is_chain, is_mended, lost, mend, stages, who

# Nothing of these is torn.
WHOLE = [ONE, NOTHING, BARE, EMPTY, WIDE, THINGS]

# A greatest torn call whose kind is bare, and one below it; p and q tear, k fits both and does no harm.
UNDER = (
    (("t", (), False), ("b", ("t",), False), ("a", ("t",), False), ("m", ("a", "b"), True), ("l", ("m",), False)),
    1,
    (("k", ("t",)), ("p", ("b",)), ("q", ("a",))),
)

# Three stages, one below the other.
STEPS = (
    (
        ("a", (), False),
        ("b", (), False),
        ("c", ("a", "b"), False),
        ("d", ("a", "b"), False),
        ("e", ("c", "d"), False),
        ("f", ("c", "d"), False),
        ("g", ("e", "f"), True),
    ),
    1,
    (("p", ("a",)), ("q", ("b",))),
)

# Two methods that each tear with a third one, so that either alone is enough for the call that all fit.
EITHER = (
    (("a", (), False), ("b", (), False), ("c", (), False), ("z", ("a", "b", "c"), False)),
    1,
    (("p", ("a",)), ("q", ("b",)), ("r", ("c",))),
)

# Calls with a winner that lose it, and calls with one that keep it, at two places.
GRID = (KINDS, 2, (("p", ("a", "b")), ("q", ("b", "a")), ("r", ("c", "c")), ("s", ("e", "e"))))

# Four kinds at three places, seven methods: the 64 calls of the bounds.
FULL = (
    (("t", (), False), ("b", ("t",), False), ("a", ("t",), True), ("z", ("a", "b"), False)),
    3,
    (
        ("f", ("a", "t", "t")),
        ("g", ("t", "a", "t")),
        ("h", ("t", "t", "a")),
        ("i", ("b", "b", "t")),
        ("j", ("t", "b", "b")),
        ("k", ("z", "t", "z")),
        ("l", ("t", "t", "t")),
    ),
)

TORN = [THREE, BOTH, SIDE, SWAPPED, DEEP, UNDER, STEPS, EITHER, GRID, FULL]


def mended(generic):
    """The GENERIC with methods for the SHAPEs of mend, too."""
    kinds, places, methods = generic
    labels = [f"w{one}{other}" for one in "abcdefghij" for other in "abcdefghij"]
    return (kinds, places, tuple(sorted(methods + tuple(zip(labels, mend(generic))))))


class Mend(unittest.TestCase):
    def test_the_example(self):
        self.assertEqual(mend(THREE), [("d",), ("e",)])

    def test_nothing_torn(self):
        for generic in WHOLE:
            self.assertEqual(mend(generic), [])

    def test_all_common_parts_and_what_they_tear(self):
        self.assertEqual(mend(BOTH), [("c",), ("d",), ("e",)])
        self.assertEqual(mend(STEPS), [("c",), ("d",), ("e",), ("f",), ("g",)])

    def test_one_stage_is_enough(self):
        self.assertEqual(mend(SIDE), [("a", "a")])
        self.assertEqual(mend(EITHER), [("z",)])

    def test_a_bare_call(self):
        self.assertEqual(mend(UNDER), [("m",)])

    def test_three_places(self):
        self.assertEqual(
            mend(DEEP), [("m", "m", "m"), ("m", "m", "t"), ("m", "t", "m"), ("t", "m", "m")]
        )

    def test_they_ascend_by_name_not_by_row(self):
        kinds = (("z", (), False), ("y", (), False), ("x", ("y", "z"), False), ("w", ("y", "z"), False))
        self.assertEqual(mend((kinds, 1, (("p", ("y",)), ("q", ("z",))))), [("w",), ("x",)])

    def test_a_mended_one_needs_nothing(self):
        for generic in TORN:
            again = mended(generic)
            self.assertIs(is_generic(again), True)
            self.assertEqual(torn(again), [])
            self.assertEqual((mend(again), stages(again), lost(again)), ([], [], []))


class Stages(unittest.TestCase):
    def test_the_example(self):
        self.assertEqual(stages(THREE), [[("d",)], [("e",)]])

    def test_nothing_torn(self):
        for generic in WHOLE:
            self.assertEqual(stages(generic), [])

    def test_the_first_are_the_greatest_torn_calls(self):
        for generic in TORN:
            self.assertEqual(stages(generic)[0], greatest_torn(generic))

    def test_several_calls_in_a_stage(self):
        self.assertEqual(stages(BOTH), [[("c",), ("d",)], [("e",)]])
        self.assertEqual(stages(STEPS), [[("c",), ("d",)], [("e",), ("f",)], [("g",)]])

    def test_three_places(self):
        self.assertEqual(stages(DEEP), [[("m", "m", "t"), ("m", "t", "m"), ("t", "m", "m")], [("m", "m", "m")]])

    def test_each_ascends_by_name_not_by_row(self):
        kinds = (("z", (), False), ("y", (), False), ("x", ("y", "z"), False), ("w", ("y", "z"), False))
        self.assertEqual(stages((kinds, 1, (("p", ("y",)), ("q", ("z",))))), [[("w",), ("x",)]])


class IsMended(unittest.TestCase):
    def test_the_example(self):
        self.assertIs(is_mended(THREE, [("d",)]), False)

    def test_by_the_shapes_of_mend(self):
        for generic in TORN + WHOLE:
            self.assertIs(is_mended(generic, mend(generic)), True)

    def test_not_without_one_of_them(self):
        for generic in TORN:
            for shape in mend(generic):
                self.assertIs(is_mended(generic, [other for other in mend(generic) if other != shape]), False)

    def test_no_shapes(self):
        for generic in WHOLE:
            self.assertIs(is_mended(generic, []), True)
        for generic in TORN:
            self.assertIs(is_mended(generic, []), False)

    def test_more_than_is_needed(self):
        for generic in TORN:
            self.assertIs(is_mended(generic, shapes(generic)), True)
        self.assertIs(is_mended(SIDE, [("t", "t"), ("a", "a")]), True)

    def test_more_that_tears_anew(self):
        kinds = KINDS + (("f", (), False), ("g", ("c", "f"), False))
        generic = (kinds, 1, THREE[2])
        self.assertIs(is_mended(generic, [("d",), ("e",)]), True)
        self.assertIs(is_mended(generic, [("d",), ("e",), ("f",)]), False)
        self.assertIs(is_mended(generic, [("d",), ("e",), ("f",), ("g",)]), True)
        self.assertIs(is_mended(ONE, [("only",)]), True)
        self.assertIs(is_mended((KINDS, 1, ()), [("a",), ("b",)]), False)

    def test_doubles_and_those_that_have_a_method(self):
        self.assertIs(is_mended(THREE, [("e",), ("d",), ("e",), ("d",)]), True)
        self.assertIs(is_mended(THREE, [("c",), ("d",), ("a",), ("e",), ("b",), ("c",)]), True)
        self.assertIs(is_mended(THREE, [("d",), ("d",), ("c",)]), False)
        self.assertIs(is_mended(THREE, [("e",), ("e",), ("a",)]), False)

    def test_in_any_order(self):
        for row in itertools.permutations(mend(BOTH)):
            self.assertIs(is_mended(BOTH, list(row)), True)
            self.assertIs(is_mended(BOTH, tuple(row)), True)


class Chain(unittest.TestCase):
    def test_the_example(self):
        self.assertEqual(chain(THREE, ("e",)), (("d",), ("e",)))

    def test_one_of_the_first_stage_may_stand_alone(self):
        self.assertIs(is_chain(THREE, ("d",), (("d",),)), True)
        self.assertIs(is_chain(SIDE, ("a", "a"), (("a", "a"),)), True)

    def test_each_that_is_needed_has_one(self):
        for generic in TORN:
            for shape in mend(generic):
                told = chain(generic, shape)
                self.assertIs(type(told), tuple)
                self.assertEqual({type(part) for part in told}, {tuple})
                self.assertEqual(told[-1], shape)
                self.assertIs(is_chain(generic, shape, told), True)
                for at, part in enumerate(told):
                    self.assertIn(part, plain.greatest_torn(generic, list(told[:at])))

    def test_no_other_has_one(self):
        for generic in TORN + WHOLE:
            for shape in shapes(generic):
                if shape not in mend(generic):
                    with self.assertRaises(NotNeeded) as caught:
                        chain(generic, shape)
                    self.assertEqual(caught.exception.shape, shape)

    def test_the_error_keeps_a_tuple(self):
        for function in (chain, who):
            with self.assertRaises(LookupError) as caught:
                function(THREE, ["c"])
            self.assertIs(type(caught.exception), NotNeeded)
            self.assertEqual(caught.exception.shape, ("c",))


class IsChain(unittest.TestCase):
    def check(self, wanted, generic, shape, *things):
        for thing in things:
            with self.subTest(shape=shape, thing=thing):
                self.assertIs(is_chain(generic, shape, thing), wanted)

    def test_chains(self):
        self.check(True, THREE, ("e",), (("d",), ("e",)))
        self.check(True, BOTH, ("e",), (("c",), ("d",), ("e",)), (("d",), ("c",), ("e",)))
        self.check(True, BOTH, ("c",), (("c",),), (("d",), ("c",)))

    def test_what_is_not_needed_for_the_last_may_be_in_it(self):
        self.check(True, STEPS, ("f",), (("c",), ("d",), ("e",), ("f",)), (("d",), ("c",), ("f",)))

    def test_each_must_be_a_greatest_torn_call(self):
        self.check(False, THREE, ("e",), (("e",),), (("c",), ("e",)), (("a",), ("e",)), (("c",), ("d",), ("e",)))
        self.check(False, BOTH, ("e",), (("e",),), (("c",), ("e",)), (("d",), ("e",)))
        self.check(False, BOTH, ("d",), (("e",), ("d",)))

    def test_the_shape_stands_last(self):
        self.check(False, THREE, ("d",), (("d",), ("e",)))
        self.check(False, THREE, ("e",), (("d",),), (("e",), ("d",)))
        self.check(False, BOTH, ("c",), (("c",), ("d",)))

    def test_none_twice(self):
        self.check(False, THREE, ("e",), (("d",), ("d",), ("e",)), (("d",), ("e",), ("e",)))
        self.check(False, THREE, ("d",), (("d",), ("d",)))

    def test_a_shape_that_is_not_of_mend(self):
        for shape in (("a",), ("b",), ("c",)):
            self.check(False, THREE, shape, (shape,), (("d",), shape), (("d",), ("e",)), (), (("d",), ("e",), shape))
        self.check(False, ONE, ("only",), (("only",),), ())

    def test_lists_in_the_place_of_tuples(self):
        self.check(False, THREE, ("e",), [("d",), ("e",)], (["d"], ("e",)), (("d",), ["e"]), [["d"], ["e"]])
        self.check(True, THREE, ["e"], (("d",), ("e",)))
        self.check(True, samples.as_lists(THREE), ["e"], (("d",), ("e",)))

    def test_shapes_of_wrong_kinds_or_places(self):
        self.check(False, THREE, ("e",), (("z",), ("e",)), (("d", "d"), ("e",)), ((), ("e",)), (("d",), ("e", "e")))
        self.check(False, SIDE, ("a", "a"), (("a",),), (("a", "a", "a"),), ("aa",), ("aa", ("a", "a")))

    def test_other_values(self):
        others = (None, True, False, 0, 1, -1, "", "e", "de", ("d", "e"), (), [], ((),), ([],), (None,), (0, 1))
        self.check(False, THREE, ("e",), *others, (True,))
        self.check(False, THREE, ("e",), (("d",), None), (("d",), 1), (("d",), "e"), (("d",), (None,)), (("d",), (1,)))
        self.check(False, THREE, ("e",), (("d",), (("e",),)), (("d",), (["e"],)), ((["d"],), ("e",)))

    def test_values_nested_twelve_levels_deep(self):
        for kind in (tuple, list):
            deep = "e"
            for _ in range(12):
                deep = kind([deep])
            self.check(False, THREE, ("e",), deep, deep[0], (("d",), deep[0][0]), (("d",), (deep[0][0][0],)))

    def test_long_ones(self):
        self.check(False, THREE, ("e",), (("d",),) * 1000 + (("e",),))

    def test_all_sequences_against_the_definition(self):
        for generic in (THREE, BOTH, SIDE, UNDER, EITHER):
            found = samples.all_shapes_of(generic)
            for size in range(1, 4):
                for thing in itertools.product(found, repeat=size):
                    steps = [thing[at] in plain.greatest_torn(generic, list(thing[:at])) for at in range(size)]
                    self.assertIs(is_chain(generic, thing[-1], thing), all(steps), (generic, thing))


class Who(unittest.TestCase):
    def test_the_example(self):
        self.assertEqual(who(THREE, ("e",)), ["p", "q"])

    def test_those_without_each_of_which_it_is_not_needed(self):
        self.assertEqual(who(THREE, ("d",)), ["p", "q"])
        self.assertEqual(who(SIDE, ("a", "a")), ["p", "q"])
        self.assertEqual(who(UNDER, ("m",)), ["p", "q"])

    def test_none_where_two_others_always_are_left(self):
        self.assertEqual(who(EITHER, ("z",)), [])

    def test_a_method_may_be_needed_for_a_shape_that_it_does_not_fit(self):
        generic = (KINDS, 1, (("p", ("a",)), ("q", ("c",)), ("r", ("d",))))
        self.assertEqual(mend(generic), [("e",)])
        self.assertEqual(who(generic, ("e",)), ["q", "r"])

    def test_one_of_several(self):
        kinds = KINDS[:2] + (("f", ("b",), False), ("z", ("a", "f"), False))
        generic = (kinds, 1, (("p", ("b",)), ("q", ("a",)), ("r", ("f",))))
        self.assertEqual(who(generic, ("z",)), ["q"])

    def test_any_other_shape(self):
        for generic in TORN + WHOLE:
            for shape in shapes(generic):
                if shape not in mend(generic):
                    with self.assertRaises(NotNeeded) as caught:
                        who(generic, shape)
                    self.assertEqual(caught.exception.shape, shape)


class Lost(unittest.TestCase):
    def test_the_example(self):
        self.assertEqual(lost(THREE), [("e",)])
        self.assertEqual(chosen(THREE, ("e",)), "r")

    def test_torn_calls_and_those_without_methods_have_none_to_lose(self):
        for generic in (BOTH, SIDE, DEEP, UNDER, EITHER, STEPS):
            self.assertEqual(lost(generic), plain.lost(generic))
            self.assertLessEqual(set(lost(generic)), set(shapes(generic)) - set(torn(generic)))
        self.assertEqual(lost(BOTH), [])

    def test_nothing_torn(self):
        for generic in WHOLE:
            self.assertEqual(lost(generic), [])

    def test_a_call_whose_winner_stays_nearest(self):
        generic = (KINDS, 1, THREE[2] + (("s", ("e",)),))
        self.assertEqual(mend(generic), [("d",)])
        self.assertEqual(lost(generic), [])

    def test_one_that_goes_to_a_further_method_that_does_not_stand_for_itself(self):
        kinds = KINDS + (("f", ("e",), True),)
        self.assertEqual(lost((kinds, 1, THREE[2])), [("e",), ("f",)])

    def test_they_ascend_by_name_not_by_row(self):
        kinds = KINDS[:4] + (("z", ("c", "d"), False), ("y", ("z",), False))
        self.assertEqual(lost((kinds, 1, THREE[2])), [("y",), ("z",)])

    def test_at_two_places(self):
        self.assertEqual(lost(GRID), [("c", "e"), ("e", "c")])
        self.assertEqual([chosen(GRID, call) for call in lost(GRID) + [("c", "c"), ("e", "e")]], ["r", "r", "r", "s"])

    def test_it_is_what_changes_its_winner(self):
        for generic in TORN:
            again = mended(generic)
            for call in shapes(generic):
                winner = chosen(generic, call)
                changed = winner not in ("none", "torn") and chosen(again, call) != winner
                self.assertIs(call in lost(generic), changed, (generic, call))


class Whole(unittest.TestCase):
    """All that mend.py tells, against the definitions, by plain search."""

    def check(self, generic):
        self.assertEqual(stages(generic), plain.stages(generic), generic)
        self.assertEqual(mend(generic), plain.mend(generic), generic)
        self.assertEqual(lost(generic), plain.lost(generic), generic)
        for shape, labels in plain.who(generic).items():
            self.assertEqual(who(generic, shape), labels, (generic, shape))
            self.assertIs(is_chain(generic, shape, chain(generic, shape)), True, (generic, shape))

    def check_sets(self, generic):
        """Against all sets of SHAPEs."""
        found = plain.mending_sets(generic)
        least = [shape for shape in samples.all_shapes_of(generic) if all(shape in row for row in found)]
        self.assertIn(least, found, generic)
        self.assertEqual(mend(generic), least, generic)
        for row in plain.subsets(samples.all_shapes_of(generic)):
            self.assertIs(is_mended(generic, row), row in found, (generic, row))

    def test_the_named_ones(self):
        for generic in NAMED + TORN:
            self.check(generic)

    def test_all_sets_for_the_named_ones(self):
        for generic in (THREE, BOTH, SIDE, WIDE[:1] + (1, ()), THINGS, ONE, NOTHING, BARE, UNDER, STEPS, EITHER):
            self.check_sets(generic)

    def test_many_small_ones(self):
        for generic in itertools.islice(samples.small_generics(), 0, None, 5):
            self.check(generic)

    def test_all_sets_for_small_ones(self):
        for generic in itertools.islice(samples.small_generics(), 0, None, 41):
            self.check_sets(generic)

    def test_64_calls(self):
        self.assertEqual((len(shapes(FULL)), len(FULL[2])), (64, 7))
        self.check(FULL)
        eight = (CUBE[0], 2, tuple((label, shape[:2]) for label, shape in CUBE[2]))
        self.assertIs(is_generic(eight), True)
        self.assertEqual(len(shapes(eight)), 64)
        self.check(eight)
        self.check(mended(eight))

    def test_somewhat_beyond_the_bounds(self):
        needed = mend(CUBE)
        self.assertEqual(stages(CUBE)[0], greatest_torn(CUBE))
        self.assertIs(is_mended(CUBE, needed), True)
        self.assertIs(is_mended(CUBE, needed[1:]), False)


class GuaranteeB(unittest.TestCase):
    """Each SHAPE of mend is told with the call that wants it, whatever else is added; and exactly the lost winners."""

    def test_each_set_that_mends_has_it_and_a_chain_says_why(self):
        for generic in (THREE, BOTH, SIDE, UNDER, EITHER):
            for shape in mend(generic):
                self.assertIn(chain(generic, shape)[-1], greatest_torn_after(generic, chain(generic, shape)[:-1]))
                for row in plain.mending_sets(generic):
                    self.assertIn(shape, row)

    def test_nothing_else_changes(self):
        for generic in TORN:
            again = mended(generic)
            self.assertEqual(torn(again), [])
            kept = [call for call in shapes(generic) if call not in lost(generic) and call not in torn(generic)]
            for call in kept:
                self.assertEqual(nearest(again, call), nearest(generic, call))


def greatest_torn_after(generic, more):
    kinds, places, methods = generic
    further = tuple((f"x{letter}", shape) for letter, shape in zip("abcdefghijkl", more))
    return greatest_torn((kinds, places, tuple(sorted(methods + further))))


if __name__ == "__main__":
    unittest.main()
