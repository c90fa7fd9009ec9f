"""Promise [10]: what hangs on what; and guarantee (e) of [1]."""

import itertools
import random
import unittest

from tests import plain, samples
from tests.samples import BARE, BOTH, CUBE, DEEP, EMPTY, KINDS, NAMED, NOTHING, ONE, SIDE, SWAPPED, THINGS, THREE
from whichmethod.change import asked, elsewhere, hidden, hiding, shows_asked, with_method, without
from whichmethod.choose import chosen, fitting, torn
from whichmethod.data import is_below, is_generic, shapes
from whichmethod.errors import Doubled, NoMethod, NotAsked

# Four live kinds below a bare one: p is hidden by several sets of others, of which some are smaller.
FAN = (
    (
        ("t", (), True),
        ("u", ("t",), True),
        ("v", ("t",), True),
        ("a", ("u",), False),
        ("b", ("u",), False),
        ("c", ("v",), False),
        ("d", ("v",), False),
    ),
    1,
    (
        ("k", ("a",)),
        ("l", ("b",)),
        ("m", ("c",)),
        ("n", ("d",)),
        ("p", ("t",)),
        ("q", ("u",)),
        ("r", ("v",)),
    ),
)

# Nothing hangs on the second of three places.
MIDDLE = (
    (("t", (), False), ("a", ("t",), False)),
    3,
    (("p", ("a", "t", "t")), ("q", ("t", "t", "a")), ("r", ("a", "t", "a"))),
)

# At each live call p is torn.
TORN = (
    (("a", (), True), ("b", (), False), ("c", ("a", "b"), False), ("d", ("a", "b"), False)),
    1,
    (("p", ("a",)), ("q", ("b",))),
)

MANY = NAMED + [FAN, MIDDLE, TORN]


def random_generics(many, most):
    """GENERICs with 64 calls or fewer, and at most so many methods."""
    chance = random.Random(many)
    for _ in range(many):
        size, places = chance.choice([(4, 1), (6, 1), (8, 1), (3, 2), (5, 2), (8, 2), (2, 3), (3, 3), (4, 3)])
        names = chance.sample("abcdefgh", size)
        kinds = tuple(
            (name, tuple(sorted(chance.sample(names[:at], min(at, chance.randrange(3))))), chance.random() < 0.4)
            for at, name in enumerate(names)
        )
        found = list(itertools.product(sorted(names), repeat=places))
        methods = chance.sample(found, min(len(found), chance.randrange(most + 1)))
        labels = sorted(chance.sample([one + other for one in "klmno" for other in "abcdefghijklmno"], len(methods)))
        yield (kinds, places, tuple(zip(labels, methods)))


class WithMethod(unittest.TestCase):
    def test_with_a_further_one(self):
        self.assertEqual(with_method(BOTH, "r", ("c",)), THREE)
        self.assertEqual(with_method(NOTHING, "m", ("only",)), ONE)

    def test_the_methods_ascend(self):
        self.assertEqual(with_method(BOTH, "a", ("e",))[2], (("a", ("e",)), ("p", ("a",)), ("q", ("b",))))
        self.assertEqual(with_method(BOTH, "pp", ("e",))[2], (("p", ("a",)), ("pp", ("e",)), ("q", ("b",))))
        self.assertEqual(with_method(BOTH, "z", ("d",))[2][2], ("z", ("d",)))

    def test_kinds_and_places_stay(self):
        more = with_method(DEEP, "a", ("t", "t", "t"))
        self.assertEqual(more[:2], DEEP[:2])
        self.assertIs(is_generic(more), True)

    def test_a_label_that_is_there(self):
        for label, shape in (("p", ("c",)), ("q", ("e",)), ("p", ("a",)), ("p", ("b",))):
            with self.assertRaises(Doubled) as caught:
                with_method(BOTH, label, shape)
            self.assertEqual(caught.exception.label, label)

    def test_a_shape_that_is_there(self):
        for label, shape in (("r", ("a",)), ("a", ("b",)), ("r", ["b"])):
            with self.assertRaises(Doubled) as caught:
                with_method(BOTH, label, shape)
            self.assertEqual(caught.exception.label, label)
        with self.assertRaises(Doubled):
            with_method(samples.as_lists(SIDE), "r", ["a", "t"])
        self.assertEqual(with_method(SIDE, "r", ("t", "t"))[2][2], ("r", ("t", "t")))

    def test_lists_become_tuples(self):
        more = with_method(samples.as_lists(BOTH), "r", ["c"])
        self.assertEqual(more, THREE)
        self.assertIs(is_generic(more), True)

    def test_a_bare_kind(self):
        self.assertEqual(with_method(BARE, "r", ("z",))[2][2], ("r", ("z",)))

    def test_seventy_methods(self):
        generic = (CUBE[0], 2, ())
        names = [one + other for one in "gfedcba" for other in "jihgfedcba"]
        for label, shape in zip(names, shapes(generic)):
            generic = with_method(generic, label, shape)
        self.assertEqual(len(generic[2]), 64)
        self.assertIs(is_generic(generic), True)
        self.assertEqual(torn(generic), [])


class Without(unittest.TestCase):
    def test_without_one(self):
        self.assertEqual(without(THREE, "r"), BOTH)
        self.assertEqual(without(ONE, "m"), NOTHING)
        self.assertEqual(without(THREE, "p")[2], (("q", ("b",)), ("r", ("c",))))

    def test_no_such_method(self):
        for generic, label in ((THREE, "x"), (THREE, "a"), (NOTHING, "m"), (EMPTY, "torn"), (THREE, "none")):
            with self.assertRaises(NoMethod) as caught:
                without(generic, label)
            self.assertEqual(caught.exception.label, label)

    def test_lists_become_tuples(self):
        left = without(samples.as_lists(THREE), "r")
        self.assertEqual(left, BOTH)
        self.assertIs(is_generic(left), True)

    def test_it_undoes_with_method(self):
        for generic in NAMED:
            taken = [shape for _, shape in generic[2]]
            for shape in shapes(generic):
                if shape not in taken:
                    self.assertEqual(without(with_method(generic, "new", shape), "new"), generic)
            for label, shape in generic[2]:
                self.assertEqual(with_method(without(generic, label), label, shape), generic)


class Elsewhere(unittest.TestCase):
    def test_the_example(self):
        self.assertEqual(elsewhere(BOTH, with_method(BOTH, "r", ("e",))), [("e",)])

    def test_all_that_a_further_method_changes(self):
        self.assertEqual(elsewhere(BOTH, THREE), [("c",), ("e",)])
        self.assertEqual(elsewhere(THREE, BOTH), [("c",), ("e",)])
        self.assertEqual(elsewhere(NOTHING, ONE), [("only",)])

    def test_the_same(self):
        for generic in MANY:
            self.assertEqual(elsewhere(generic, generic), [])
            self.assertEqual(elsewhere(generic, samples.as_lists(generic)), [])

    def test_one_shape_and_unlike_labels(self):
        other = (KINDS, 1, (("p", ("b",)), ("q", ("a",))))
        self.assertEqual(elsewhere(BOTH, other), [("a",), ("b",)])
        self.assertEqual(elsewhere(ONE, (ONE[0], 1, (("n", ("only",)),))), [("only",)])

    def test_torn_between_others_is_torn(self):
        other = (KINDS, 1, (("r", ("a",)), ("s", ("b",))))
        self.assertEqual(elsewhere(BOTH, other), [("a",), ("b",)])

    def test_calls_with_bare_kinds(self):
        self.assertEqual(elsewhere(BARE, without(BARE, "p")), [("y",)])
        self.assertEqual(elsewhere(THINGS, without(THINGS, "p")), [("a",)])

    def test_they_ascend_by_name(self):
        self.assertEqual(elsewhere(SWAPPED, (SWAPPED[0], 2, ())), sorted(elsewhere(SWAPPED, (SWAPPED[0], 2, ()))))

    def test_many(self):
        chance = random.Random(1)
        for one in MANY + list(random_generics(60, 9)):
            kinds, places, methods = one
            labels = [label for label, _ in methods]
            for _ in range(4):
                left = chance.sample(shapes(one)[:4] + [shape for _, shape in methods][:-1], min(len(methods), 3))
                some = sorted(set(left))
                other = (kinds, places, tuple(zip(labels, chance.sample(some, len(some)))))
                self.assertIs(is_generic(other), True)
                calls = [call for call in shapes(one) if plain.chosen(one, call) != plain.chosen(other, call)]
                self.assertEqual(elsewhere(one, other), calls, (one, other))


class Asked(unittest.TestCase):
    def test_the_example(self):
        self.assertEqual(asked(SIDE), [0, 1])

    def test_a_place_that_nothing_hangs_on(self):
        self.assertEqual(asked(MIDDLE), [0, 2])
        self.assertEqual(asked(EMPTY), [])

    def test_one_place(self):
        self.assertEqual(asked(THREE), [0])
        self.assertEqual(asked(ONE), [])
        self.assertEqual(asked(NOTHING), [])

    def test_three_places(self):
        self.assertEqual(asked(DEEP), [0, 1, 2])
        self.assertEqual(asked(CUBE), [0, 1, 2])

    def test_a_method_for_everything_asks_nothing(self):
        self.assertEqual(asked((SIDE[0], 2, (("p", ("t", "t")),))), [])
        self.assertEqual(asked((SIDE[0], 2, (("p", ("t", "t")), ("q", ("t", "a"))))), [1])

    def test_torn_and_none_are_unlike_things_too(self):
        only_torn = (KINDS, 1, (("p", ("c",)), ("q", ("d",))))
        self.assertEqual(asked(only_torn), [0])
        self.assertEqual(asked(TORN), [0])

    def test_calls_with_bare_kinds_count(self):
        generic = ((("a", (), True), ("b", ("a",), False)), 1, (("p", ("a",)), ("q", ("b",))))
        self.assertEqual(asked(generic), [0])
        self.assertEqual(shows_asked(generic, 0), (("a",), ("b",)))

    def test_a_place_may_be_asked_beside_others_alone(self):
        generic = (SIDE[0], 2, (("p", ("a", "a")),))
        self.assertEqual(asked(generic), [0, 1])
        self.assertEqual(shows_asked(generic, 0), (("a", "a"), ("t", "a")))
        self.assertEqual(shows_asked(generic, 1), (("a", "a"), ("a", "t")))

    def test_many(self):
        for generic in MANY + list(random_generics(60, 9)):
            places = [place for place in range(generic[1]) if plain.asking_pairs(generic, place)]
            self.assertEqual(asked(generic), places, generic)


class ShowsAsked(unittest.TestCase):
    def test_the_least_pair(self):
        self.assertEqual(shows_asked(SIDE, 0), (("a", "a"), ("t", "a")))
        self.assertEqual(shows_asked(SIDE, 1), (("a", "a"), ("a", "t")))
        self.assertEqual(shows_asked(THREE, 0), (("a",), ("b",)))
        self.assertEqual(shows_asked(MIDDLE, 2), (("a", "a", "a"), ("a", "a", "t")))

    def test_the_least_first_call_and_then_the_least_other(self):
        kinds = tuple((name, (), False) for name in "dcba")
        self.assertEqual(shows_asked((kinds, 1, (("p", ("d",)),)), 0), (("a",), ("d",)))
        self.assertEqual(shows_asked((kinds, 1, (("p", ("b",)), ("q", ("c",)))), 0), (("a",), ("b",)))

    def test_a_pair_of_tuples_in_a_tuple(self):
        pair = shows_asked(samples.as_lists(SIDE), 0)
        self.assertIs(type(pair), tuple)
        self.assertEqual([type(call) for call in pair], [tuple, tuple])

    def test_a_place_that_is_not_asked(self):
        for generic, place in ((MIDDLE, 1), (EMPTY, 0), (EMPTY, 2), (ONE, 0), (NOTHING, 0)):
            with self.assertRaises(NotAsked) as caught:
                shows_asked(generic, place)
            self.assertEqual(caught.exception.place, place)

    def test_a_number_that_is_no_place(self):
        for place in (2, 3, -1, -2, 100):
            with self.assertRaises(NotAsked) as caught:
                shows_asked(SIDE, place)
            self.assertEqual(caught.exception.place, place)

    def test_many(self):
        for generic in MANY + list(random_generics(60, 9)):
            for place in range(generic[1]):
                pairs = plain.asking_pairs(generic, place)
                if pairs:
                    self.assertEqual(shows_asked(generic, place), pairs[0], (generic, place))
                else:
                    with self.assertRaises(NotAsked) as caught:
                        shows_asked(generic, place)
                    self.assertEqual(caught.exception.place, place)


class Hidden(unittest.TestCase):
    def test_the_example(self):
        self.assertEqual(hidden(THINGS), ["p"])

    def test_a_method_for_a_bare_kind_alone(self):
        self.assertEqual(hidden(BARE), ["p", "q"])
        self.assertEqual(hidden(((("a", (), True),), 1, (("p", ("a",)),))), ["p"])

    def test_a_live_call_of_its_own(self):
        self.assertEqual(hidden(THREE), [])
        self.assertEqual(hidden(SIDE), [])
        self.assertEqual(hidden(ONE), [])

    def test_a_call_with_a_bare_kind_does_not_count(self):
        live = (THINGS[0][:1] + (("b", (), False),) + THINGS[0][1:], 2, (("p", ("a", "b")), ("q", ("c", "b"))))
        self.assertEqual(hidden(live), [])
        self.assertEqual(hidden((live[0], 2, live[2] + (("r", ("d", "b")),))), ["p"])
        self.assertEqual(hidden((live[0], 2, (("p", ("b", "a")), ("q", ("b", "c")), ("r", ("b", "d"))))), ["p"])

    def test_one_that_is_torn_at_each_live_call(self):
        self.assertEqual(hidden(TORN), ["p"])
        more = (TORN[0][:1] + (("b", (), True),) + TORN[0][2:], 1, TORN[2])
        self.assertEqual(hidden(more), ["p", "q"])

    def test_no_methods(self):
        self.assertEqual(hidden(NOTHING), [])
        self.assertEqual(hidden(EMPTY), [])

    def test_many(self):
        for generic in MANY + list(random_generics(80, 9)):
            self.assertEqual(hidden(generic), plain.hidden(generic), generic)


class Hiding(unittest.TestCase):
    def test_the_example(self):
        self.assertEqual(hiding(THINGS, "p"), ("q", "r"))

    def test_one_that_is_not_hidden(self):
        self.assertIsNone(hiding(THINGS, "q"))
        self.assertIsNone(hiding(THREE, "p"))
        self.assertIsNone(hiding(ONE, "m"))

    def test_no_live_call_needs_no_others(self):
        self.assertEqual(hiding(BARE, "p"), ())
        self.assertEqual(hiding(((("a", (), True),), 1, (("p", ("a",)),)), "p"), ())

    def test_one_that_is_not_comparable(self):
        self.assertEqual(hiding(TORN, "p"), ("q",))

    def test_one_above_it_does_not_hide(self):
        generic = (FAN[0], 1, (("o", ("t",)), ("p", ("u",)), ("q", ("a",)), ("r", ("b",))))
        self.assertEqual(hiding(generic, "p"), ("q", "r"))
        self.assertIsNone(hiding(without(generic, "r"), "p"))

    def test_a_smallest_set(self):
        self.assertEqual(hiding(FAN, "p"), ("q", "r"))
        self.assertEqual(hiding(without(FAN, "q"), "p"), ("k", "l", "r"))
        self.assertEqual(hiding(FAN, "q"), ("k", "l"))

    def test_the_least_of_several(self):
        live = (("a", ("u", "w"), False), ("b", ("u", "w"), False))
        kinds = (("t", (), True), ("u", ("t",), True), ("w", ("t",), True)) + live
        methods = (("k", ("a",)), ("l", ("b",)), ("p", ("t",)), ("q", ("w",)), ("r", ("u",)))
        self.assertEqual(hiding((kinds, 1, methods), "p"), ("q",))
        self.assertEqual(hiding((kinds, 1, methods), "q"), ("r",))
        self.assertEqual(hiding((kinds, 1, methods[:3]), "p"), ("k", "l"))

    def test_least_by_labels_not_by_shapes(self):
        kinds = (("t", (), True), ("z", ("t",), True), ("y", ("t",), True), ("a", ("y", "z"), False))
        self.assertEqual(hiding((kinds, 1, (("k", ("z",)), ("l", ("y",)), ("m", ("t",)))), "m"), ("k",))

    def test_no_such_method(self):
        for generic, label in ((THINGS, "x"), (THINGS, "a"), (NOTHING, "m"), (THREE, "torn")):
            with self.assertRaises(NoMethod) as caught:
                hiding(generic, label)
            self.assertEqual(caught.exception.label, label)

    def test_all_sets_of_other_methods(self):
        for generic in MANY + list(random_generics(120, 8)):
            for label, _ in generic[2]:
                found = plain.hiding_sets(generic, label)
                self.assertEqual(hiding(generic, label), found[0] if found else None, (generic, label))

    def test_sixty_four_methods(self):
        kinds = (("a", (), True),) + tuple((name, ("a",), False) for name in "bcdefgh")
        generic = (kinds, 2, ())
        labels = [one + other for one in "klmnopqr" for other in "abcdefgh"]
        generic = (kinds, 2, tuple(zip(labels, shapes(generic))))
        self.assertEqual(hidden(generic), ["ka"] + labels[1:8] + [label for label in labels[8:] if label[1] == "a"])
        self.assertEqual(hiding(generic, "ka"), tuple(labels[1:8]))
        self.assertEqual(hiding(generic, "la"), ("kb", "kc", "kd", "ke", "kf", "kg", "kh"))
        self.assertIsNone(hiding(generic, "lb"))


class GuaranteeE(unittest.TestCase):
    """Which calls a change sends elsewhere; which places must be looked at; which methods nothing calls."""

    def test_which_method_is_taken_hangs_on_the_asked_places_alone(self):
        for generic in MANY + list(random_generics(60, 9)):
            places = asked(generic)
            told = {}
            for call in shapes(generic):
                told.setdefault(tuple(call[place] for place in places), set()).add(chosen(generic, call))
            self.assertTrue(all(len(row) == 1 for row in told.values()), generic)

    def test_each_place_is_shown_by_two_calls(self):
        for generic in MANY + list(random_generics(60, 9)):
            for place in asked(generic):
                one, other = shows_asked(generic, place)
                self.assertLess(one, other)
                self.assertEqual([at for at in range(generic[1]) if one[at] != other[at]], [place])
                self.assertNotEqual(chosen(generic, one), chosen(generic, other))

    def test_a_method_less_sends_elsewhere_just_what_it_wins_or_tears(self):
        for generic in MANY:
            for label, _ in generic[2]:
                calls = elsewhere(generic, without(generic, label))
                self.assertLessEqual({call for call in shapes(generic) if chosen(generic, call) == label}, set(calls))
                for call in calls:
                    self.assertIn(chosen(generic, call), (label, "torn"))

    def test_a_hidden_one_is_exactly_one_with_a_set_that_hides_it(self):
        for generic in MANY + list(random_generics(60, 9)):
            for label, shape in generic[2]:
                self.assertIs(hiding(generic, label) is not None, label in hidden(generic))
                if label in hidden(generic):
                    self.check_shown(generic, label, shape)

    def check_shown(self, generic, label, shape):
        """Whatever other methods there are, those of the set hide it."""
        kept = hiding(generic, label) + (label,)
        left = generic[:2] + (tuple(row for row in generic[2] if row[0] in kept),)
        self.assertIn(label, hidden(left))
        for call in plain.live_calls(generic):
            if label in fitting(generic, call):
                others = [name for name in fitting(left, call) if name != label]
                own = [name for name in others if not is_below(generic[0], shape, dict(generic[2])[name])]
                self.assertTrue(own)


if __name__ == "__main__":
    unittest.main()
