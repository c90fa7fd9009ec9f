"""Promise [5]: which methods fit, which are nearest, which calls are torn; and guarantee (a) of [1]."""

import itertools
import unittest

from tests import samples
from tests.samples import BARE, BOTH, CUBE, DEEP, EMPTY, KINDS, NAMED, NOTHING, ONE, SIDE, SWAPPED, THINGS, THREE, WIDE
from whichmethod.choose import chosen, cover, fitting, greatest_torn, meet, nearest, torn
from whichmethod.data import common, is_below, shapes
from whichmethod.errors import NoMethod


class Fitting(unittest.TestCase):
    def test_those_whose_shape_the_call_is_below(self):
        self.assertEqual(fitting(THREE, ("a",)), ["p"])
        self.assertEqual(fitting(THREE, ("c",)), ["p", "q", "r"])
        self.assertEqual(fitting(THREE, ("d",)), ["p", "q"])
        self.assertEqual(fitting(THREE, ("e",)), ["p", "q", "r"])

    def test_at_each_place(self):
        self.assertEqual(fitting(SIDE, ("a", "t")), ["p"])
        self.assertEqual(fitting(SIDE, ("t", "a")), ["q"])
        self.assertEqual(fitting(SIDE, ("a", "a")), ["p", "q"])
        self.assertEqual(fitting(SIDE, ("t", "t")), [])

    def test_none(self):
        self.assertEqual(fitting(NOTHING, ("only",)), [])
        self.assertEqual(fitting(EMPTY, ("a", "b", "a")), [])
        self.assertEqual(fitting(WIDE, ("a", "y")), [])

    def test_a_call_with_bare_kinds(self):
        self.assertEqual(fitting(THINGS, ("a",)), ["p"])
        self.assertEqual(fitting(BARE, ("x",)), ["q"])

    def test_labels_that_are_names_of_kinds(self):
        self.assertEqual(fitting(SWAPPED, ("b", "b")), ["a", "b"])
        self.assertEqual(fitting(SWAPPED, ("a", "a")), ["a", "b", "z"])


class Nearest(unittest.TestCase):
    def test_the_example(self):
        self.assertEqual(nearest(THREE, ("d",)), ["p", "q"])

    def test_one_below_another(self):
        self.assertEqual(nearest(THINGS, ("c",)), ["q"])
        self.assertEqual(nearest(THINGS, ("a",)), ["p"])

    def test_one_below_two_others(self):
        self.assertEqual(nearest(THREE, ("c",)), ["r"])
        self.assertEqual(nearest(THREE, ("e",)), ["r"])

    def test_one_that_is_below_does_not_count_where_it_does_not_fit(self):
        self.assertEqual(nearest(THREE, ("a",)), ["p"])
        self.assertEqual(nearest(DEEP, ("m", "m", "l")), ["p", "q", "r"])
        self.assertEqual(nearest(DEEP, ("l", "l", "l")), ["s"])

    def test_one_that_is_nearest_beside_one_that_is_not(self):
        generic = (KINDS, 1, (("p", ("a",)), ("q", ("c",)), ("r", ("d",))))
        self.assertEqual(nearest(generic, ("e",)), ["q", "r"])
        self.assertEqual(nearest(generic, ("d",)), ["r"])

    def test_none(self):
        self.assertEqual(nearest(NOTHING, ("only",)), [])
        self.assertEqual(nearest(SIDE, ("t", "t")), [])


class Chosen(unittest.TestCase):
    def test_the_winner(self):
        self.assertEqual(chosen(THREE, ("c",)), "r")
        self.assertEqual(chosen(THREE, ("e",)), "r")
        self.assertEqual(chosen(ONE, ("only",)), "m")
        self.assertEqual(chosen(SIDE, ("a", "t")), "p")

    def test_torn(self):
        self.assertEqual(chosen(THREE, ("d",)), "torn")
        self.assertEqual(chosen(SIDE, ("a", "a")), "torn")
        self.assertEqual(chosen(DEEP, ("m", "m", "t")), "torn")

    def test_none(self):
        self.assertEqual(chosen(NOTHING, ("only",)), "none")
        self.assertEqual(chosen(EMPTY, ("b", "b", "b")), "none")
        self.assertEqual(chosen(WIDE, ("a", "a")), "none")

    def test_a_winner_whose_label_is_the_name_of_a_kind(self):
        self.assertEqual(chosen(SWAPPED, ("torn", "none")), "a")
        self.assertEqual(chosen(SWAPPED, ("none", "torn")), "b")
        self.assertEqual(chosen(SWAPPED, ("none", "none")), "none")
        self.assertEqual(chosen(SWAPPED, ("b", "b")), "torn")


class Torn(unittest.TestCase):
    def test_the_examples(self):
        self.assertEqual(torn(THREE), [("d",)])
        self.assertEqual(greatest_torn(THREE), [("d",)])
        self.assertEqual(torn(SIDE), [("a", "a")])

    def test_greatest_ones(self):
        self.assertEqual(torn(BOTH), [("c",), ("d",), ("e",)])
        self.assertEqual(greatest_torn(BOTH), [("c",), ("d",)])

    def test_none(self):
        for generic in (ONE, NOTHING, BARE, EMPTY, WIDE, THINGS):
            self.assertEqual(torn(generic), [])
            self.assertEqual(greatest_torn(generic), [])

    def test_calls_with_bare_kinds(self):
        kinds = (("a", (), False), ("b", (), False), ("c", ("a", "b"), True), ("d", ("c",), False))
        generic = (kinds, 1, (("p", ("a",)), ("q", ("b",))))
        self.assertEqual(torn(generic), [("c",), ("d",)])
        self.assertEqual(greatest_torn(generic), [("c",)])

    def test_a_torn_call_below_one_that_has_a_winner(self):
        generic = (KINDS, 1, (("p", ("c",)), ("q", ("d",))))
        self.assertEqual(torn(generic), [("e",)])
        self.assertEqual(greatest_torn(generic), [("e",)])

    def test_the_greatest_ones_ascend(self):
        generic = (KINDS, 2, (("p", ("a", "a")), ("q", ("b", "b"))))
        self.assertEqual(greatest_torn(generic), [("c", "c"), ("c", "d"), ("d", "c"), ("d", "d")])


class Meet(unittest.TestCase):
    def test_the_example(self):
        self.assertEqual(meet(THREE, "p", "q"), ("d",))

    def test_the_least_call_not_the_greatest(self):
        kinds = (("z", (), False), ("y", (), False), ("x", ("y", "z"), False), ("a", ("x",), True))
        generic = (kinds, 1, (("p", ("z",)), ("q", ("y",))))
        self.assertEqual(meet(generic, "p", "q"), ("a",))
        self.assertEqual(meet(BOTH, "q", "p"), ("c",))

    def test_none(self):
        self.assertIsNone(meet(THREE, "p", "r"))
        self.assertIsNone(meet(WIDE, "p", "q"))
        self.assertIsNone(meet(BARE, "p", "q"))

    def test_none_where_another_method_is_nearer(self):
        generic = (SIDE[0], 2, SIDE[2] + (("r", ("a", "a")),))
        self.assertIsNone(meet(generic, "p", "q"))

    def test_both_are_nearest_beside_a_third(self):
        self.assertEqual(meet(DEEP, "p", "r"), ("l", "l", "m"))
        self.assertEqual(meet(DEEP, "r", "p"), ("l", "l", "m"))


class Cover(unittest.TestCase):
    def test_the_example(self):
        self.assertEqual(cover(THREE, "p", "r"), ["r"])
        self.assertEqual(cover(THREE, "r", "q"), ["r"])

    def test_none_where_they_meet(self):
        self.assertIsNone(cover(THREE, "p", "q"))
        self.assertIsNone(cover(SIDE, "p", "q"))

    def test_no_common_part(self):
        self.assertEqual(cover(WIDE, "p", "q"), [])
        self.assertEqual(cover(BARE, "q", "p"), [])

    def test_a_third_method(self):
        generic = (SIDE[0], 2, SIDE[2] + (("r", ("a", "a")),))
        self.assertEqual(cover(generic, "p", "q"), ["r"])

    def test_each_part_has_its_own(self):
        generic = (KINDS, 1, (("p", ("a",)), ("q", ("b",)), ("r", ("d",)), ("s", ("c",))))
        self.assertEqual(cover(generic, "p", "q"), ["s", "r"])

    def test_one_method_may_cover_several_parts(self):
        kinds = KINDS[:2] + (("m", ("a",), False), ("y", ("b", "m"), False), ("z", ("b", "m"), False))
        generic = (kinds, 1, (("p", ("a",)), ("q", ("b",)), ("r", ("m",))))
        self.assertEqual(cover(generic, "p", "q"), ["r", "r"])

    def test_it_need_be_below_one_of_both_only(self):
        kinds = (("a", (), False), ("b", (), False), ("m", ("b",), False), ("z", ("a", "m"), False))
        generic = (kinds, 1, (("p", ("a",)), ("q", ("b",)), ("r", ("m",))))
        self.assertEqual(cover(generic, "p", "q"), ["r"])
        self.assertEqual(meet(generic, "p", "r"), ("z",))

    def test_the_least_of_several(self):
        methods = (("c", ("a",)), ("m", ("e",)), ("q", ("b",)), ("r", ("c",)), ("z", ("d",)))
        self.assertEqual(cover((KINDS, 1, methods), "c", "z"), ["z"])
        self.assertEqual(cover((KINDS, 1, methods), "r", "z"), ["m"])
        self.assertEqual(cover((KINDS, 1, methods), "c", "m"), ["m"])
        swapped = (("a", ("a",)), ("b", ("d",)), ("c", ("e",)))
        self.assertEqual(cover((KINDS, 1, swapped), "a", "c"), ["b"])

    def test_one_that_fits_but_is_below_neither_does_not_cover(self):
        kinds = (("t", (), False), ("a", ("t",), False), ("b", ("t",), False), ("c", ("a", "b"), False))
        generic = (kinds, 1, (("k", ("t",)), ("p", ("a",)), ("q", ("b",)), ("r", ("c",))))
        self.assertEqual(cover(generic, "p", "q"), ["r"])


class WrongLabels(unittest.TestCase):
    def check(self, generic, label, other, wrong):
        for function in (meet, cover):
            with self.subTest(function=function.__name__, label=label, other=other):
                with self.assertRaises(NoMethod) as caught:
                    function(generic, label, other)
                self.assertEqual(caught.exception.label, wrong)

    def test_the_first_one(self):
        self.check(THREE, "x", "p", "x")
        self.check(WIDE, "r", "q", "r")

    def test_the_second_one(self):
        self.check(THREE, "p", "x", "x")
        self.check(WIDE, "q", "r", "r")

    def test_both(self):
        self.check(THREE, "y", "x", "y")
        self.check(THREE, "x", "y", "x")
        self.check(NOTHING, "z", "y", "z")

    def test_a_kind_is_no_method(self):
        self.check(THREE, "p", "a", "a")
        self.check(THREE, "a", "p", "a")

    def test_none_and_torn_are_no_methods(self):
        self.check(THREE, "none", "torn", "none")
        self.check(SWAPPED, "a", "torn", "torn")


class Whole(unittest.TestCase):
    """All that choose.py tells, against the definitions read word for word."""

    def check_calls(self, generic):
        for call in samples.all_shapes_of(generic):
            near = samples.nearest_labels(generic, call)
            self.assertEqual(fitting(generic, call), samples.fitting_labels(generic, call), (generic, call))
            self.assertEqual(nearest(generic, call), near, (generic, call))
            answer = "none" if not near else near[0] if len(near) == 1 else "torn"
            self.assertEqual(chosen(generic, call), answer, (generic, call))

    def check_torn(self, generic):
        calls = samples.torn_calls(generic)
        self.assertEqual(torn(generic), calls, generic)
        self.assertEqual(greatest_torn(generic), samples.greatest(generic[0], calls), generic)

    def check_pairs(self, generic):
        for (label, one), (other, two) in itertools.permutations(generic[2], 2):
            call = samples.least_meeting(generic, label, other)
            self.assertEqual(meet(generic, label, other), call, (generic, label, other))
            wanted = None
            if call is None:
                parts = samples.common_parts(generic, one, two)
                wanted = [samples.covering_labels(generic, label, other, part)[0] for part in parts]
            self.assertEqual(cover(generic, label, other), wanted, (generic, label, other))

    def test_the_named_ones(self):
        for generic in NAMED:
            self.check_calls(generic)
            self.check_torn(generic)
            self.check_pairs(generic)

    def test_many_small_ones(self):
        for number, generic in enumerate(samples.small_generics()):
            self.check_torn(generic)
            self.check_pairs(generic)
            if number % 5 == 0:
                self.check_calls(generic)

    def test_512_calls(self):
        self.assertEqual(len(shapes(CUBE)), 512)
        self.check_calls(CUBE)
        self.check_torn(CUBE)
        self.check_pairs(CUBE)

    def test_512_calls_and_seventy_methods(self):
        names = [one + other for one in "abcdefg" for other in "abcdefghij"]
        methods = tuple(zip(names, samples.all_shapes_of(CUBE)[::7]))
        self.assertEqual(len(methods), 70)
        generic = (CUBE[0], 3, methods)
        calls = torn(generic)
        for call in samples.all_shapes_of(generic)[::11]:
            self.assertEqual(nearest(generic, call), samples.nearest_labels(generic, call), call)
            self.assertIs(call in calls, chosen(generic, call) == "torn", call)


class GuaranteeA(unittest.TestCase):
    """Exactly the torn calls; and for two methods a call that sees both as nearest, or what covers them."""

    def check(self, generic):
        calls = torn(generic)
        for call in shapes(generic):
            self.assertIs(call in calls, len(nearest(generic, call)) > 1)
        for label, other in itertools.combinations([row[0] for row in generic[2]], 2):
            call = meet(generic, label, other)
            if call is None:
                self.check_cover(generic, label, other)
            else:
                self.assertLessEqual({label, other}, set(nearest(generic, call)))
                self.assertIsNone(cover(generic, label, other))

    def check_cover(self, generic, label, other):
        """Each call that both fit is below a part, and the one that covers it there is nearer than one of both."""
        kinds, _, methods = generic
        shape_of = dict(methods)
        two = (shape_of[label], shape_of[other])
        parts = common(kinds, *two)
        covers = cover(generic, label, other)
        self.assertEqual(len(covers), len(parts))
        for call in shapes(generic):
            if self.are_below(kinds, call, two[0]) and self.are_below(kinds, call, two[1]):
                self.assertTrue([part for part in parts if self.are_below(kinds, call, part)])
        for part, name in zip(parts, covers):
            self.assertIn(name, fitting(generic, part))
            shape = shape_of[name]
            self.assertTrue([one for one in two if shape != one and self.are_below(kinds, shape, one)])

    def are_below(self, kinds, one, other):
        return all(is_below(kinds, kind, upper) for kind, upper in zip(one, other))

    def test_named_ones(self):
        for generic in NAMED:
            self.check(generic)

    def test_small_ones(self):
        for generic in itertools.islice(samples.small_generics(), 0, None, 23):
            self.check(generic)


if __name__ == "__main__":
    unittest.main()
