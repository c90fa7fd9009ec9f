"""Promises [8] and [9]: orders that decide; and guarantee (d) of [1]."""

import itertools
import random
import unittest

from tests import plain, samples
from tests.samples import BARE, BOTH, CUBE, DEEP, EMPTY, KINDS, NAMED, NOTHING, ONE, SIDE, SWAPPED, THINGS, THREE, WIDE
from whichmethod.choose import chosen, torn
from whichmethod.data import shapes
from whichmethod.errors import NotFitting
from whichmethod.orders import (
    cannot,
    choices,
    forced,
    is_order,
    order_for,
    ring,
    settled,
    shows_ring,
    unlike,
    winners,
    won_by,
)

# Three methods for kinds beside each other, and calls below each two of them: wishes can go round in a ring.
ROUND = (
    (
        ("a", (), False),
        ("b", (), False),
        ("c", (), False),
        ("x", ("a", "b"), False),
        ("y", ("b", "c"), False),
        ("z", ("a", "c"), True),
    ),
    1,
    (("p", ("a",)), ("q", ("b",)), ("r", ("c",))),
)
AROUND = [(("x",), "p"), (("y",), "q"), (("z",), "r")]

# The same at the second of two places, behind a place that tells nothing.
SECOND = (ROUND[0], 2, tuple((label, ("a",) + shape) for label, shape in ROUND[2]))

# The kinds are unlike at both places: the first one decides.
PLACES = (KINDS, 2, (("p", ("a", "b")), ("q", ("b", "a")), ("r", ("a", "a"))))

# A ring of which one part is that a kind is below another: x is below a.
BELOW = (
    (("a", (), False), ("b", (), False), ("x", ("a",), False), ("m", ("b", "x"), False)),
    1,
    (("p", ("a",)), ("q", ("b",)), ("r", ("x",))),
)

# Six kinds at two places: the bounds of choices, but for the 64 calls.
SIX = (
    ROUND[0],
    2,
    (
        ("k", ("a", "b")),
        ("l", ("b", "a")),
        ("m", ("c", "a")),
        ("n", ("b", "c")),
        ("o", ("x", "c")),
        ("p", ("a", "y")),
        ("q", ("z", "z")),
    ),
)

MANY = NAMED + [ROUND, SECOND, PLACES, BELOW]


class IsOrder(unittest.TestCase):
    def check(self, wanted, kinds, *things):
        for thing in things:
            with self.subTest(thing=thing):
                self.assertIs(is_order(kinds, thing), wanted)

    def test_orders(self):
        self.check(True, KINDS, ("e", "c", "d", "a", "b"), ("e", "d", "c", "b", "a"))
        self.check(True, ONE[0], ("only",))

    def test_a_kind_behind_one_that_it_is_below(self):
        self.check(False, KINDS, ("a", "b", "c", "d", "e"), ("c", "e", "d", "a", "b"), ("e", "c", "a", "d", "b"))
        self.check(False, SIDE[0], ("t", "a"))
        self.check(True, SIDE[0], ("a", "t"))

    def test_not_only_its_supers(self):
        kinds = (("t", (), False), ("a", ("t",), False), ("b", ("a",), False))
        self.check(True, kinds, ("b", "a", "t"))
        self.check(False, kinds, ("a", "t", "b"), ("t", "b", "a"), ("b", "t", "a"))

    def test_all_kinds_and_each_once(self):
        self.check(False, KINDS, ("e", "c", "d", "a"), ("c", "d", "a", "b"), ("e", "c", "d", "a", "a"))
        self.check(False, KINDS, ("e", "c", "d", "a", "b", "b"), ("e", "e", "c", "d", "a", "b"))
        self.check(False, KINDS, ("e", "c", "d", "b", "b"))
        self.check(False, WIDE[0], ("a", "b", "x", "x"), ("a", "b", "x"))

    def test_of_these_kinds_alone(self):
        self.check(False, KINDS, ("e", "c", "d", "a", "z"), ("e", "c", "d", "a", "b", "z"), ("e", "c", "d", "a", ""))

    def test_lists(self):
        self.check(False, KINDS, ["e", "c", "d", "a", "b"])
        self.check(True, samples.as_lists(KINDS), ("e", "c", "d", "a", "b"))

    def test_other_values(self):
        deep = ("e", "c", "d", "a", "b")
        for _ in range(11):
            deep = (deep,)
        others = (None, True, False, 0, 1, "", "ecdab", (), [], (None,), (("e", "c", "d", "a", "b"),), deep, KINDS)
        self.check(False, KINDS, *others, ("e", "c", "d", "a", None), ("e", "c", "d", "a", 1))
        self.check(False, KINDS, ("e", "c", "d", "a", ("b",)), ("e", "c", "d", "a", ["b"]), (1, 2, 3, 4, 5), (True,) * 5, ([], [], [], [], []))
        self.check(False, KINDS, ("e", "c", "d", "a", deep[0]))
        self.check(False, ONE[0], "only", ["only"], (("only",),), (1,))

    def test_all_sequences(self):
        for kinds in samples.small_kinds(("c", "a", "d", "b")):
            found = plain.orders(kinds)
            for thing in itertools.product("abcd", repeat=4):
                self.assertIs(is_order(kinds, thing), thing in found, (kinds, thing))


class WonBy(unittest.TestCase):
    def test_the_example(self):
        self.assertEqual(won_by(BOTH, ("e", "c", "d", "a", "b"), ("c",)), "p")
        self.assertEqual(won_by(BOTH, ("e", "c", "d", "b", "a"), ("c",)), "q")

    def test_none(self):
        self.assertEqual(won_by(SIDE, ("a", "t"), ("t", "t")), "none")
        self.assertEqual(won_by(NOTHING, ("only",), ("only",)), "none")

    def test_the_first_place_at_which_they_are_unlike_decides(self):
        self.assertEqual(won_by(SIDE, ("a", "t"), ("a", "a")), "p")
        self.assertEqual(won_by(PLACES, ("e", "c", "d", "a", "b"), ("c", "c")), "r")
        self.assertEqual(won_by(PLACES, ("e", "c", "d", "b", "a"), ("c", "c")), "q")
        self.assertEqual(won_by(PLACES, ("e", "c", "d", "b", "a"), ("a", "c")), "p")

    def test_the_winner_wins_by_every_order(self):
        for generic in NAMED:
            for order in plain.orders(generic[0]):
                for call in shapes(generic):
                    winner = chosen(generic, call)
                    if winner != "torn":
                        self.assertEqual(won_by(generic, order, call), winner)

    def test_all_orders_and_calls(self):
        for generic in MANY:
            for order in plain.orders(generic[0])[::5]:
                for call in shapes(generic):
                    self.assertEqual(won_by(generic, order, call), plain.won_by(generic, order, call))


class Forced(unittest.TestCase):
    def test_the_example(self):
        self.assertEqual(forced(BOTH, (("c",), "q")), [("b", "a")])

    def test_for_each_other_method_that_fits(self):
        self.assertEqual(forced(THREE, (("e",), "r")), [("c", "a"), ("c", "b")])
        self.assertEqual(forced(THREE, (("e",), "p")), [("a", "b"), ("a", "c")])
        self.assertEqual(forced(THREE, (("a",), "p")), [])
        self.assertEqual(forced(ONE, (("only",), "m")), [])

    def test_at_the_first_place_at_which_they_are_unlike(self):
        self.assertEqual(forced(PLACES, (("c", "c"), "p")), [("a", "b"), ("b", "a")])
        self.assertEqual(forced(PLACES, (("c", "c"), "q")), [("b", "a")])
        self.assertEqual(forced(PLACES, (("c", "c"), "r")), [("a", "b")])
        self.assertEqual(forced(SECOND, (("a", "x"), "q")), [("b", "a")])

    def test_the_same_pair_once(self):
        self.assertEqual(forced(SIDE, (("a", "a"), "p")), [("a", "t")])
        self.assertEqual(forced(DEEP, (("m", "m", "m"), "p")), [("m", "t")])
        self.assertEqual(forced(DEEP, (("m", "m", "m"), "r")), [("t", "m")])

    def test_a_wish_is_fulfilled_by_just_the_orders_in_which_they_stand_so(self):
        for generic in MANY:
            for wish in plain.wishes_of(generic)[::3]:
                pairs = forced(generic, wish)
                self.assertEqual(pairs, plain.forced(generic, wish))
                for order in plain.orders(generic[0])[::7]:
                    stand = all(order.index(one) < order.index(other) for one, other in pairs)
                    self.assertIs(stand, won_by(generic, order, wish[0]) == wish[1])


class OrderFor(unittest.TestCase):
    def test_the_example(self):
        self.assertEqual(order_for(BOTH, [(("c",), "q")]), ("e", "c", "d", "b", "a"))

    def test_no_wishes(self):
        self.assertEqual(order_for(BOTH, []), ("e", "c", "d", "a", "b"))
        self.assertEqual(order_for(ONE, []), ("only",))
        self.assertEqual(order_for(WIDE, []), ("a", "b", "x", "y"))
        for generic in MANY:
            self.assertEqual(order_for(generic, []), plain.orders(generic[0])[0])

    def test_a_wish_twice(self):
        self.assertEqual(order_for(BOTH, [(("c",), "q"), (("c",), "q")]), ("e", "c", "d", "b", "a"))

    def test_none(self):
        self.assertIsNone(order_for(BOTH, [(("c",), "q"), (("d",), "p")]))
        self.assertIsNone(order_for(THREE, [(("c",), "p")]))
        self.assertIsNone(order_for(ROUND, AROUND))

    def test_two_of_three(self):
        for some in itertools.combinations(AROUND, 2):
            self.assertEqual(order_for(ROUND, list(some)), plain.fulfilling(ROUND, some)[0])

    def test_the_least_of_several(self):
        kinds = tuple((name, (), False) for name in "dbac") + (("z", ("a", "d"), False),)
        generic = (kinds, 1, (("p", ("a",)), ("q", ("d",))))
        self.assertEqual(order_for(generic, []), ("b", "c", "z", "a", "d"))
        self.assertEqual(order_for(generic, [(("z",), "q")]), ("b", "c", "z", "d", "a"))


class Ring(unittest.TestCase):
    def test_the_example(self):
        self.assertEqual(ring(BOTH, [(("c",), "q"), (("d",), "p")]), ("a", "b"))

    def test_none(self):
        self.assertIsNone(ring(BOTH, []))
        self.assertIsNone(ring(BOTH, [(("c",), "q"), (("d",), "q")]))
        self.assertIsNone(ring(ROUND, AROUND[:2]))
        self.assertIsNone(ring(ONE, [(("only",), "m")]))

    def test_three_kinds(self):
        self.assertEqual(ring(ROUND, AROUND), ("a", "b", "c"))
        self.assertEqual(ring(SECOND, [(("a",) + call, label) for call, label in AROUND]), ("a", "b", "c"))
        back = [(("x",), "q"), (("y",), "r"), (("z",), "p")]
        self.assertEqual(ring(ROUND, back), ("a", "c", "b"))

    def test_a_kind_below_the_next_one(self):
        self.assertEqual(ring(THREE, [(("c",), "p")]), ("a", "c"))
        self.assertEqual(ring(THREE, [(("e",), "q")]), ("b", "c"))
        self.assertEqual(ring(BELOW, [(("m",), "p")]), ("a", "x"))

    def test_the_shortest(self):
        self.assertEqual(ring(ROUND, AROUND + [(("y",), "r")]), ("b", "c"))
        self.assertEqual(ring(ROUND, [(("y",), "r")] + AROUND), ("b", "c"))

    def test_the_least_of_several(self):
        self.assertEqual(ring(ROUND, AROUND + [(("y",), "r"), (("z",), "p")]), ("a", "c"))
        self.assertEqual(ring(THREE, [(("e",), "q"), (("e",), "p")]), ("a", "b"))

    def test_a_wish_twice(self):
        self.assertEqual(ring(ROUND, AROUND + AROUND), ("a", "b", "c"))


class ShowsRing(unittest.TestCase):
    def check(self, wanted, generic, wishes, *things):
        for thing in things:
            with self.subTest(thing=thing):
                self.assertIs(shows_ring(generic, wishes, thing), wanted)

    def test_rings_of_any_length_from_any_kind(self):
        self.check(True, ROUND, AROUND, ("a", "b", "c"), ("b", "c", "a"), ("c", "a", "b"))
        self.check(True, ROUND, AROUND + [(("y",), "r")], ("b", "c"), ("c", "b"), ("a", "b", "c"))
        self.check(True, BOTH, [(("c",), "q"), (("d",), "p")], ("a", "b"), ("b", "a"))

    def test_each_ahead_of_the_next(self):
        self.check(False, ROUND, AROUND, ("a", "c", "b"), ("a", "b"), ("b", "a"), ("a", "b", "c", "x"))
        self.check(False, ROUND, AROUND[:2], ("a", "b", "c"), ("b", "c", "a"))

    def test_the_last_ahead_of_the_first(self):
        self.check(False, ROUND, AROUND[1:], ("a", "b", "c"))
        self.check(False, SIDE, [], ("a", "t"), ("t", "a"))

    def test_a_kind_below_the_next_one(self):
        self.check(True, THREE, [(("c",), "p")], ("a", "c"), ("c", "a"))
        self.check(True, THREE, [(("e",), "p"), (("e",), "q")], ("a", "c", "b"), ("b", "a"), ("b", "c", "a"))
        self.check(False, THREE, [(("c",), "p")], ("a", "d"), ("e", "a", "c"), ("a", "c", "e"))

    def test_all_different_and_two_or_more(self):
        self.check(False, ROUND, AROUND, ("a",), (), ("a", "a"), ("a", "b", "c", "a", "b", "c"), ("a", "b", "c", "a"))
        self.check(False, BOTH, [(("c",), "q"), (("d",), "p")], ("a", "b", "a", "b"), ("a",))

    def test_no_wishes(self):
        for generic in MANY:
            names = [row[0] for row in generic[0]]
            self.check(False, generic, [], *itertools.permutations(names, min(2, len(names))))

    def test_other_kinds(self):
        self.check(False, ROUND, AROUND, ("a", "w"), ("p", "q", "r"), ("a", "b", "c", "w"))

    def test_lists_and_other_values(self):
        deep = "a"
        for _ in range(12):
            deep = (deep,)
        others = (None, True, False, 0, 1, "", "abc", [], ["a", "b", "c"], (("a", "b", "c"),), (1, 2, 3), deep, (None,))
        self.check(False, ROUND, AROUND, *others, ("a", "b", None), ("a", "b", ["c"]), ("a", "b", ("c",)), ((), ()))
        self.check(False, ROUND, AROUND, ([], []), (True, False), ("a", "b", deep[0]), (["a"], ["b"], ["c"]))
        self.check(True, samples.as_lists(ROUND), samples.as_lists(AROUND), ("a", "b", "c"))


class Cannot(unittest.TestCase):
    def test_the_example(self):
        wishes = [(("c",), "q"), (("d",), "p"), (("a",), "p")]
        self.assertEqual(cannot(BOTH, wishes), ((("c",), "q"), (("d",), "p")))

    def test_none(self):
        self.assertIsNone(cannot(BOTH, []))
        self.assertIsNone(cannot(ROUND, AROUND[1:]))
        self.assertIsNone(cannot(BOTH, [(("c",), "q"), (("c",), "q")]))

    def test_one_that_no_order_fulfils(self):
        self.assertEqual(cannot(THREE, [(("a",), "p"), (("e",), "q"), (("c",), "p")]), ((("c",), "p"),))

    def test_three(self):
        self.assertEqual(cannot(ROUND, AROUND[::-1]), tuple(AROUND))
        self.assertEqual(cannot(ROUND, AROUND + [(("a",), "p"), (("b",), "q")]), tuple(AROUND))

    def test_as_few_as_can_be(self):
        self.assertEqual(cannot(ROUND, AROUND + [(("y",), "r")]), ((("y",), "q"), (("y",), "r")))

    def test_the_least_of_several(self):
        wishes = [(("d",), "p"), (("d",), "q"), (("c",), "q"), (("c",), "p")]
        self.assertEqual(cannot(BOTH, wishes), ((("c",), "p"), (("c",), "q")))
        self.assertEqual(cannot(BOTH, wishes[:3]), ((("c",), "q"), (("d",), "p")))

    def test_a_wish_twice(self):
        self.assertEqual(cannot(BOTH, [(("d",), "p"), (("c",), "q")] * 3), ((("c",), "q"), (("d",), "p")))

    def test_twelve(self):
        letters = "abcd"
        kinds = tuple((name, (), False) for name in letters)
        pairs = list(itertools.combinations(letters, 2))
        kinds = kinds + tuple((f"x{one}{other}", (one, other), False) for one, other in pairs)
        generic = (kinds, 1, tuple((f"m{name}", (name,)) for name in letters))
        wishes = [((f"x{one}{other}",), f"m{one}") for one, other in pairs]
        self.assertIsNone(cannot(generic, wishes + wishes))
        about = [(("xab",), "ma"), (("xbc",), "mb"), (("xcd",), "mc"), (("xad",), "md")]
        others = [((name,), f"m{name}") for name in letters]
        self.assertEqual(cannot(generic, others + about), tuple(sorted(about)))

    def test_sixty_four_that_can_be_had(self):
        wishes = [wish for wish in plain.wishes_of(SIX) if won_by(SIX, order_for(SIX, []), wish[0]) == wish[1]]
        self.assertIsNone(cannot(SIX, (wishes * 3)[:64]))


class WrongWishes(unittest.TestCase):
    FUNCTIONS = [order_for, ring, cannot, lambda generic, wishes: shows_ring(generic, wishes, ("a", "b"))]

    def check(self, generic, wishes, wrong):
        for number, function in enumerate(self.FUNCTIONS):
            with self.subTest(function=number, wishes=wishes):
                with self.assertRaises(ValueError) as caught:
                    function(generic, wishes)
                self.assertIs(type(caught.exception), NotFitting)
                self.assertEqual((caught.exception.call, caught.exception.label), wrong)

    def test_forced(self):
        for wish in ((("b",), "p"), (("c",), "x"), (("a",), "none"), (("a",), "torn"), (("a",), "a")):
            for told in (wish, samples.as_lists(wish)):
                with self.assertRaises(NotFitting) as caught:
                    forced(BOTH, told)
                self.assertEqual((caught.exception.call, caught.exception.label), wish)

    def test_a_method_that_does_not_fit(self):
        self.check(BOTH, [(("a",), "q")], (("a",), "q"))
        self.check(SIDE, [(("t", "t"), "p")], (("t", "t"), "p"))

    def test_no_method_with_this_label(self):
        self.check(BOTH, [(("a",), "r")], (("a",), "r"))
        self.check(NOTHING, [(("only",), "m")], (("only",), "m"))

    def test_the_first_one(self):
        self.check(BOTH, [(("c",), "q"), (("b",), "p"), (("a",), "q")], (("b",), "p"))
        self.check(BOTH, [(("c",), "q"), (("a",), "q"), (("b",), "p")], (("a",), "q"))
        self.check(BOTH, [(("b",), "x"), (("a",), "a")], (("b",), "x"))

    def test_behind_wishes_that_cannot_be_had(self):
        self.check(BOTH, [(("c",), "q"), (("d",), "p"), (("b",), "p")], (("b",), "p"))

    def test_it_keeps_tuples(self):
        self.check(BOTH, [[["c"], "q"], [["b"], "p"]], (("b",), "p"))

    def test_whatever_thing_is(self):
        for thing in (None, (), "ab", ("z",), []):
            with self.assertRaises(NotFitting):
                shows_ring(BOTH, [(("b",), "p")], thing)


class Winners(unittest.TestCase):
    def test_the_example(self):
        self.assertEqual(winners(SIDE, ("a", "a")), ["p"])

    def test_several(self):
        self.assertEqual(winners(BOTH, ("c",)), ["p", "q"])
        self.assertEqual(winners(THREE, ("d",)), ["p", "q"])
        self.assertEqual(winners(PLACES, ("c", "c")), ["q", "r"])

    def test_the_winner_alone(self):
        self.assertEqual(winners(THREE, ("e",)), ["r"])
        self.assertEqual(winners(ONE, ("only",)), ["m"])

    def test_none(self):
        self.assertEqual(winners(SIDE, ("t", "t")), [])
        self.assertEqual(winners(NOTHING, ("only",)), [])

    def test_one_that_is_first_of_neither(self):
        """The one place decides for p or for q, never for r, which is torn from both at that place."""
        kinds = (("t", (), False), ("a", ("t",), False), ("b", ("t",), False), ("z", ("a", "b"), False))
        generic = (kinds, 2, (("p", ("a", "t")), ("q", ("b", "t")), ("r", ("t", "a"))))
        self.assertEqual(torn(generic)[-1], ("z", "z"))
        self.assertEqual(winners(generic, ("z", "z")), ["p", "q"])


class Settled(unittest.TestCase):
    def test_the_example(self):
        self.assertEqual(torn(SIDE), [("a", "a")])
        self.assertEqual(settled(SIDE), [("a", "a")])

    def test_none(self):
        for generic in (ONE, NOTHING, EMPTY, BARE, WIDE, THINGS, BOTH, THREE):
            self.assertEqual(settled(generic), [])

    def test_calls_with_a_winner_are_not_told(self):
        self.assertEqual(settled(DEEP), torn(DEEP))
        self.assertNotIn(("l", "l", "l"), settled(DEEP))

    def test_some_of_the_torn_calls(self):
        kinds = (("t", (), False), ("a", ("t",), False), ("b", ("t",), False), ("z", ("a", "b"), False))
        generic = (kinds, 2, (("p", ("a", "t")), ("q", ("t", "b")), ("r", ("b", "a"))))
        self.assertEqual(settled(generic), [("a", "b"), ("a", "z"), ("b", "z"), ("z", "b")])
        self.assertEqual([call for call in torn(generic) if call not in settled(generic)], [("z", "a"), ("z", "z")])


class Choices(unittest.TestCase):
    def test_the_example(self):
        self.assertEqual(choices(BOTH), 2)

    def test_one_way(self):
        for generic in (ONE, NOTHING, EMPTY, BARE, WIDE, THINGS, SIDE, DEEP):
            self.assertEqual(choices(generic), 1)

    def test_several_calls_that_hang_together(self):
        self.assertEqual(choices(ROUND), 6)
        self.assertEqual(choices(SECOND), 6)
        self.assertEqual(choices(PLACES), 2)

    def test_four_kinds_beside_each_other_with_one_call_below_all(self):
        kinds = tuple((name, (), False) for name in "abcd") + (("z", tuple("abcd"), False),)
        self.assertEqual(choices((kinds, 1, tuple((f"m{name}", (name,)) for name in "abcd"))), 4)

    def test_six_kinds(self):
        self.assertEqual(choices(SIX), len(plain.ways(SIX)))
        self.assertLess(3, choices(SIX))

    def test_somewhat_beyond_the_bounds(self):
        eight = (CUBE[0], 2, tuple((label, shape[:2]) for label, shape in CUBE[2]))
        self.assertEqual(choices(eight), len(plain.ways(eight)))


class Unlike(unittest.TestCase):
    ONE, TWO = ("e", "c", "d", "a", "b"), ("e", "d", "c", "b", "a")

    def test_the_example(self):
        self.assertEqual(unlike(BOTH, self.ONE, self.TWO), ("c",))

    def test_none(self):
        self.assertIsNone(unlike(BOTH, self.ONE, self.ONE))
        self.assertIsNone(unlike(BOTH, self.ONE, ("e", "d", "c", "a", "b")))
        self.assertIsNone(unlike((KINDS, 1, ()), self.ONE, self.TWO))

    def test_the_least_call(self):
        self.assertEqual(unlike(THREE, self.ONE, self.TWO), ("d",))
        self.assertEqual(unlike(PLACES, self.ONE, self.TWO), ("a", "c"))

    def test_all_pairs_of_orders(self):
        for generic in (BOTH, THREE, PLACES, ROUND):
            for one, other in itertools.islice(itertools.product(plain.orders(generic[0]), repeat=2), 0, None, 17):
                wanted = None
                for call in shapes(generic):
                    if wanted is None and plain.won_by(generic, one, call) != plain.won_by(generic, other, call):
                        wanted = call
                self.assertEqual(unlike(generic, one, other), wanted)


class Whole(unittest.TestCase):
    """All that orders.py tells, against all ORDERs, all rings and all sets of WISHes."""

    def check_wishes(self, generic, wishes):
        fulfilled = plain.fulfilling(generic, wishes)
        self.assertEqual(order_for(generic, wishes), fulfilled[0] if fulfilled else None, (generic, wishes))
        found = plain.rings(generic, wishes)
        self.assertEqual(ring(generic, wishes), found[0] if found else None, (generic, wishes))
        self.assertEqual(cannot(generic, wishes), plain.cannot(generic, wishes), (generic, wishes))
        names = [row[0] for row in generic[0]]
        for size in range(1, len(names) + 1):
            for thing in itertools.islice(itertools.permutations(names, size), 0, None, 3):
                self.assertIs(shows_ring(generic, wishes, thing), thing in found, (generic, wishes, thing))

    def check_calls(self, generic):
        ways = plain.ways(generic)
        self.assertEqual(choices(generic), len(ways), generic)
        calls = shapes(generic)
        alone = []
        for number, call in enumerate(calls):
            won = sorted({way[number] for way in ways} - {"none"})
            self.assertEqual(winners(generic, call), won, (generic, call))
            if len(won) == 1 and call in torn(generic):
                alone.append(call)
        self.assertEqual(settled(generic), alone, generic)

    def test_the_named_ones(self):
        source = random.Random(5)
        for generic in MANY:
            self.check_calls(generic)
            wishes = plain.wishes_of(generic)
            for size in (0, 1, 2, 3, 5):
                self.check_wishes(generic, source.sample(wishes, min(size, len(wishes))))

    def test_all_sets_of_wishes(self):
        for generic in (BOTH, ROUND, BELOW, SIDE):
            wishes = plain.wishes_of(generic)
            for size in (1, 2):
                for some in itertools.combinations(wishes, size):
                    self.check_wishes(generic, list(some)[::-1])

    def test_many_small_ones(self):
        source = random.Random(6)
        for number, generic in enumerate(samples.small_generics()):
            if number % 17 == 0:
                self.check_calls(generic)
                wishes = plain.wishes_of(generic)
                for _ in range(2):
                    self.check_wishes(generic, [source.choice(wishes) for _ in range(4)] if wishes else [])

    def test_some_of_two_places(self):
        source = random.Random(7)
        names = [(one, other) for one in "abcd" for other in "abcd"]
        for kinds in itertools.islice(samples.small_kinds(("d", "a", "c", "b")), 0, None, 3):
            generic = (kinds, 2, tuple(zip("kpqrs", source.sample(names, 5))))
            self.check_calls(generic)
            wishes = plain.wishes_of(generic)
            self.check_wishes(generic, [source.choice(wishes) for _ in range(3)])


class GuaranteeD(unittest.TestCase):
    """Either an ORDER that fulfils the WISHes, or a RING and a set of WISHes that cannot be had together."""

    def check(self, generic, wishes):
        order = order_for(generic, wishes)
        told = ring(generic, wishes)
        some = cannot(generic, wishes)
        self.assertEqual((told is None, some is None), (order is not None, order is not None))
        if order is not None:
            self.assertIs(is_order(generic[0], order), True)
            for call, label in wishes:
                self.assertEqual(won_by(generic, order, call), label)
        else:
            self.assertIs(shows_ring(generic, wishes, told), True)
            self.assertLessEqual(set(some), set(wishes))
            self.assertIsNone(order_for(generic, some))
            for wish in some:
                self.assertIsNotNone(order_for(generic, [other for other in some if other != wish]))

    def test_64_calls_and_8_kinds(self):
        source = random.Random(8)
        eight = (CUBE[0], 2, tuple((label, shape[:2]) for label, shape in CUBE[2]))
        for generic in (eight, SIX, SECOND):
            wishes = plain.wishes_of(generic)
            for size in (1, 2, 3, 4, 6, 8, 12):
                self.check(generic, [source.choice(wishes) for _ in range(size)])

    def test_64_wishes(self):
        order = order_for(SIX, [(("x", "x"), "l")])
        wishes = [(call, won_by(SIX, order, call)) for call in shapes(SIX)]
        wishes = ([wish for wish in wishes if wish[1] != "none"] * 4)[:64]
        self.assertEqual(len(wishes), 64)
        told = order_for(SIX, wishes)
        self.assertIsNone(unlike(SIX, order, told))
        self.assertIsNone(ring(SIX, wishes))


if __name__ == "__main__":
    unittest.main()
