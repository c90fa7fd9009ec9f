"""Promises [2] and [3]: what holds of all functions, and the bounds."""

import copy
import inspect
import unittest

from tests.samples import BOTH, CUBE, KINDS, NAMED, SIDE, SWAPPED, THINGS, THREE, WIDE, as_lists
from whichmethod import change, choose, data, desk, later, mend, orders, texts
from whichmethod.errors import BadLine, Doubled, NoMethod, NotAsked, NotFitting, NotNeeded

ORDER = ("e", "c", "d", "a", "b")
WISHES = [(("c",), "q"), (("d",), "p")]
TEXT = "generic 1\nkind a\nkind b\nbare kind c a b\nkind d a b\nkind e c d\nmethod p a\nmethod q b\nmethod r c"
LATER = ((("f", ("a", "b"), False), ("g", ("x", "y"), True)), ("f", "g"))

# Each function with its parameters and arguments.
CALLS = [
    (data.is_kinds, {"thing": KINDS}),
    (data.is_generic, {"thing": THREE}),
    (data.is_below, {"kinds": KINDS, "one": "e", "other": "b"}),
    (data.shapes, {"generic": SIDE}),
    (data.common, {"kinds": KINDS, "one": ("a", "c"), "other": ("b", "d")}),
    (choose.fitting, {"generic": THREE, "call": ("e",)}),
    (choose.nearest, {"generic": THREE, "call": ("d",)}),
    (choose.chosen, {"generic": THREE, "call": ("e",)}),
    (choose.torn, {"generic": THREE}),
    (choose.greatest_torn, {"generic": THREE}),
    (choose.meet, {"generic": THREE, "label": "p", "other": "q"}),
    (choose.cover, {"generic": THREE, "label": "p", "other": "r"}),
    (choose.fitting, {"generic": SWAPPED, "call": ("a", "b")}),
    (choose.torn, {"generic": SWAPPED}),
    (choose.greatest_torn, {"generic": SIDE}),
    (choose.cover, {"generic": SWAPPED, "label": "z", "other": "a"}),
    (mend.mend, {"generic": THREE}),
    (mend.stages, {"generic": BOTH}),
    (mend.is_mended, {"generic": THREE, "shapes": [("d",), ("e",)]}),
    (mend.chain, {"generic": THREE, "shape": ("e",)}),
    (mend.is_chain, {"generic": THREE, "shape": ("e",), "thing": (("d",), ("e",))}),
    (mend.who, {"generic": THREE, "shape": ("e",)}),
    (mend.lost, {"generic": THREE}),
    (later.is_parting, {"generic": WIDE, "thing": ("a", "x")}),
    (later.unsafe, {"generic": WIDE, "partings": [("a", "x"), ("b", "y")]}),
    (later.tearing, {"generic": WIDE, "partings": [("a", "y")], "label": "p", "other": "q"}),
    (later.tears, {"generic": WIDE, "partings": [("a", "x")], "label": "p", "other": "q", "thing": LATER}),
    (later.safe_by, {"generic": WIDE, "partings": [("x", "y"), ("a", "b")], "label": "p", "other": "q"}),
    (later.safe_by, {"generic": THREE, "partings": [], "label": "p", "other": "r"}),
    (later.barred, {"generic": THREE}),
    (later.fewest_partings, {"generic": WIDE}),
    (later.paper, {"generic": WIDE}),
    (orders.is_order, {"kinds": KINDS, "thing": ORDER}),
    (orders.won_by, {"generic": BOTH, "order": ORDER, "call": ("c",)}),
    (orders.forced, {"generic": BOTH, "wish": (("c",), "q")}),
    (orders.order_for, {"generic": BOTH, "wishes": WISHES[:1]}),
    (orders.ring, {"generic": BOTH, "wishes": WISHES}),
    (orders.shows_ring, {"generic": BOTH, "wishes": WISHES, "thing": ("b", "a")}),
    (orders.cannot, {"generic": BOTH, "wishes": WISHES + [(("a",), "p")]}),
    (orders.winners, {"generic": BOTH, "call": ("d",)}),
    (orders.settled, {"generic": SIDE}),
    (orders.choices, {"generic": BOTH}),
    (orders.unlike, {"generic": BOTH, "order": ORDER, "other": ("e", "d", "c", "b", "a")}),
    (change.with_method, {"generic": SIDE, "label": "a", "shape": ("t", "t")}),
    (change.without, {"generic": THREE, "label": "p"}),
    (change.elsewhere, {"generic": BOTH, "other": THREE}),
    (change.asked, {"generic": SIDE}),
    (change.shows_asked, {"generic": SIDE, "place": 1}),
    (change.hidden, {"generic": THINGS}),
    (change.hiding, {"generic": THINGS, "label": "p"}),
    (texts.generic_text, {"generic": SWAPPED}),
    (texts.generic_in, {"text": TEXT}),
    (desk.answers, {"text": TEXT + "\n\nmend\nwish p d\norder\nadd s d\nchain e\npartings\ndrop x"}),
]

# Calls that raise an error that the document names.
WRONG = [
    (choose.meet, NoMethod, [THREE, "p", "x"]),
    (choose.cover, NoMethod, [THREE, "x", "p"]),
    (mend.chain, NotNeeded, [THREE, ("c",)]),
    (mend.who, NotNeeded, [THREE, ("c",)]),
    (later.tearing, NoMethod, [WIDE, [("a", "b")], "p", "x"]),
    (later.tears, NoMethod, [WIDE, [("a", "b")], "x", "p", LATER]),
    (later.safe_by, NoMethod, [WIDE, [("a", "b")], "x", "y"]),
    (orders.forced, NotFitting, [BOTH, (("a",), "q")]),
    (orders.order_for, NotFitting, [BOTH, WISHES + [(("a",), "q")]]),
    (orders.ring, NotFitting, [BOTH, WISHES + [(("a",), "q")]]),
    (orders.shows_ring, NotFitting, [BOTH, WISHES + [(("a",), "q")], ("a", "b")]),
    (orders.cannot, NotFitting, [BOTH, WISHES + [(("a",), "q")]]),
    (change.with_method, Doubled, [BOTH, "p", ("c",)]),
    (change.with_method, Doubled, [BOTH, "r", ("a",)]),
    (change.without, NoMethod, [BOTH, "r"]),
    (change.shows_asked, NotAsked, [(KINDS, 2, ()), 1]),
    (change.hiding, NoMethod, [THINGS, "x"]),
    (texts.generic_in, BadLine, ["generic 1\nkind a\n"]),
    (desk.answers, BadLine, ["generic 1\nkind a\n\ntorn\nx"]),
]

# What the interface lists, file by file.
LISTED = {
    data: ["is_kinds", "is_generic", "is_below", "shapes", "common"],
    choose: ["fitting", "nearest", "chosen", "torn", "greatest_torn", "meet", "cover"],
    mend: ["mend", "stages", "is_mended", "chain", "is_chain", "who", "lost"],
    later: ["is_parting", "unsafe", "tearing", "tears", "safe_by", "barred", "fewest_partings", "paper"],
    orders: [
        "is_order", "won_by", "forced", "order_for", "ring", "shows_ring", "cannot",
        "winners", "settled", "choices", "unlike",
    ],
    change: ["with_method", "without", "elsewhere", "asked", "shows_asked", "hidden", "hiding"],
    texts: ["generic_text", "generic_in"],
    desk: ["answers"],
}


def with_lists(values):
    """The arguments with lists for tuples at every depth, but for a thing."""
    return {name: value if name == "thing" else as_lists(value) for name, value in values.items()}


def with_tuples(value):
    """The value with tuples for lists at every depth."""
    if isinstance(value, (list, tuple)):
        return tuple(with_tuples(part) for part in value)
    return value


def lists_in(value):
    """All lists in a value, itself among them."""
    found = [value] if isinstance(value, list) else []
    if isinstance(value, (list, tuple)):
        for part in value:
            found += lists_in(part)
    return found


def kinds_of_members(value):
    """The value with the class of each part, as 1 == True and a list may hide in a tuple."""
    if isinstance(value, (list, tuple)):
        return (type(value).__name__, [kinds_of_members(part) for part in value])
    return (type(value).__name__, value)


class Arguments(unittest.TestCase):
    def each(self, calls):
        """Each function, its arguments by their names, and what it returns for them by position."""
        for function, values in calls:
            yield function, values, function(*values.values())

    def test_by_the_names_shown(self):
        for function, values, result in self.each(CALLS):
            self.assertEqual(kinds_of_members(function(**values)), kinds_of_members(result))
            self.assertEqual(list(inspect.signature(function).parameters), list(values))

    def test_in_any_order_of_names(self):
        for function, values, result in self.each(CALLS):
            self.assertEqual(function(**dict(reversed(list(values.items())))), result)

    def test_lists_for_tuples_at_every_depth(self):
        for function, values, result in self.each(CALLS):
            if list(values) != ["thing"]:
                self.assertEqual(kinds_of_members(function(**with_lists(values))), kinds_of_members(result))

    def test_tuples_for_lists_at_every_depth(self):
        for function, values, result in self.each(CALLS):
            tuples = {name: with_tuples(value) for name, value in values.items()}
            self.assertEqual(kinds_of_members(function(**tuples)), kinds_of_members(result))

    def test_lists_for_some_tuples(self):
        kinds, places, methods = THREE
        mixed = [kinds, places, (methods[0], list(methods[1]), (methods[2][0], list(methods[2][1])))]
        self.assertEqual(choose.nearest(mixed, ["e"]), ["r"])
        self.assertEqual(choose.torn(mixed), [("d",)])
        self.assertEqual(choose.cover(mixed, "p", "r"), ["r"])
        self.assertEqual(data.common([list(row) for row in KINDS], ("a",), ["b"]), [("c",), ("d",)])

    def test_a_thing_is_not_taken_with_lists(self):
        self.assertIs(data.is_kinds(as_lists(KINDS)), False)
        self.assertIs(data.is_generic(as_lists(THREE)), False)
        for function, values in CALLS:
            if "thing" in values:
                self.assertIs(function(**values), True)
                self.assertIs(function(**{**values, "thing": list(values["thing"])}), False)
                self.assertIs(function(**{**values, "thing": as_lists(values["thing"])}), False)

    def test_no_argument_is_changed(self):
        for function, values, _ in self.each(CALLS):
            lists = {name: as_lists(value) for name, value in values.items()}
            kept = copy.deepcopy(lists)
            function(**lists)
            self.assertEqual(kinds_of_members(list(lists.values())), kinds_of_members(list(kept.values())))

    def test_no_argument_is_changed_where_an_error_is_raised(self):
        for function, error, values in WRONG:
            with self.subTest(function=function.__name__):
                lists = as_lists(values)
                with self.assertRaises(error):
                    function(*lists)
                self.assertEqual(kinds_of_members(lists), kinds_of_members(as_lists(values)))

    def test_what_an_error_keeps_are_tuples(self):
        for function, error, values in WRONG:
            with self.subTest(function=function.__name__):
                with self.assertRaises(error) as caught:
                    function(*as_lists(values))
                for kept in vars(caught.exception).values():
                    self.assertEqual(lists_in(kept), [])


class Results(unittest.TestCase):
    def test_every_returned_list_is_new(self):
        for function, values in CALLS:
            first = function(**values)
            if isinstance(first, list):
                with self.subTest(function=function.__name__):
                    kept = list(first)
                    first.append("more")
                    first.reverse()
                    second = function(**values)
                    self.assertEqual(second, kept)
                    self.assertIsNot(second, first)

    def test_so_is_every_list_in_it(self):
        for function, values in CALLS:
            first = function(**values)
            kept = copy.deepcopy(first)
            for row in lists_in(first):
                row.append("more")
            self.assertEqual(function(**values), kept)

    def test_only_the_results_are_lists(self):
        for function, values in CALLS:
            for row in (function(**values), function(**with_lists(values)) if list(values) != ["thing"] else None):
                found = lists_in(row)
                whole = 1 if isinstance(row, list) else 0
                self.assertEqual(len(found), whole + len(row) if function is mend.stages and whole else whole)

    def test_no_returned_list_is_an_argument(self):
        generic = as_lists(THREE)
        call = ["d"]
        for result in (choose.fitting(generic, call), choose.nearest(generic, call), choose.torn(generic)):
            result.clear()
        self.assertEqual((generic, call), (as_lists(THREE), ["d"]))

    def test_equal_results_for_the_same_call(self):
        for function, values in CALLS:
            with self.subTest(function=function.__name__):
                first = kinds_of_members(function(**values))
                self.assertEqual(kinds_of_members(function(**copy.deepcopy(values))), first)

    def test_several_results_are_a_list_and_shapes_are_tuples(self):
        parts = data.common(KINDS, ("a",), ("b",))
        for result in (data.shapes(SIDE), parts, choose.torn(THREE), choose.greatest_torn(SIDE)):
            self.assertIs(type(result), list)
            self.assertEqual({type(shape) for shape in result}, {tuple})
        for result in (choose.fitting(THREE, ("e",)), choose.nearest(THREE, ("e",)), choose.cover(THREE, "p", "r")):
            self.assertIs(type(result), list)
            self.assertEqual({type(label) for label in result}, {str})
        self.assertIs(type(choose.meet(as_lists(THREE), "p", "q")), tuple)

    def test_returned_values_may_be_passed_in_again(self):
        for generic in NAMED:
            for call in data.shapes(generic) + choose.greatest_torn(generic):
                self.assertEqual(choose.nearest(generic, call), choose.nearest(generic, list(call)))

    def test_lists_ascend(self):
        for generic in NAMED:
            for result in (data.shapes(generic), choose.torn(generic), choose.greatest_torn(generic)):
                self.assertEqual(result, sorted(set(result)))
            for call in data.shapes(generic):
                for result in (choose.fitting(generic, call), choose.nearest(generic, call)):
                    self.assertEqual(result, sorted(set(result)))


class Bounds(unittest.TestCase):
    def test_eight_kinds_three_places_seven_methods(self):
        self.assertEqual((len(CUBE[0]), CUBE[1], len(CUBE[2])), (8, 3, 7))
        self.assertIs(data.is_generic(CUBE), True)
        calls = choose.torn(CUBE)
        self.assertEqual(len(data.shapes(CUBE)), 512)
        self.assertEqual(choose.chosen(CUBE, ("a", "a", "a")), "q")
        self.assertLess(0, len(calls))
        self.assertLess(len(calls), 512)

    def test_one_kind_one_place_one_method(self):
        generic = ((("a", (), False),), 1, (("m", ("a",)),))
        self.assertEqual(data.shapes(generic), [("a",)])
        self.assertEqual((choose.torn(generic), choose.chosen(generic, ("a",))), ([], "m"))

    def test_somewhat_beyond_them(self):
        kinds = tuple((name, ("a",) if name > "a" else (), False) for name in "abcdefghijkl")
        generic = (kinds, 3, (("p", ("a", "b", "c")), ("q", ("d", "a", "a"))))
        self.assertIs(data.is_generic(generic), True)
        self.assertEqual(len(data.shapes(generic)), 1728)
        self.assertEqual(choose.greatest_torn(generic), [("d", "b", "c")])
        self.assertEqual(choose.meet(generic, "p", "q"), ("d", "b", "c"))

    def test_four_places(self):
        generic = (SIDE[0], 4, (("p", ("a", "t", "t", "t")), ("q", ("t", "t", "t", "a"))))
        self.assertEqual(len(choose.torn(generic)), 4)
        self.assertEqual(choose.greatest_torn(generic), [("a", "t", "t", "a")])


class Names(unittest.TestCase):
    def test_each_function_is_defined_in_the_file_under_which_it_is_listed(self):
        for file, names in LISTED.items():
            for name in names:
                with self.subTest(name=name):
                    self.assertEqual(getattr(file, name).__module__, file.__name__)

    def test_each_of_them_is_tested_here(self):
        tested = {function for function, _ in CALLS}
        for file, names in LISTED.items():
            for name in names:
                self.assertIn(getattr(file, name), tested)


if __name__ == "__main__":
    unittest.main()
