"""Promise [1]: the guarantees over several files together, and what stays when a GENERIC is told in another way."""

import itertools
import unittest

from tests.samples import CUBE, NAMED, SIDE, THREE
from tests.test_change import FAN, MIDDLE, random_generics
from tests.test_change import TORN as ALWAYS_TORN
from tests.test_desk import ROUND
from whichmethod.change import asked, elsewhere, hidden, hiding, shows_asked, with_method, without
from whichmethod.choose import chosen, cover, fitting, greatest_torn, meet, nearest, torn
from whichmethod.data import common, is_generic, is_kinds, shapes
from whichmethod.desk import answers
from whichmethod.errors import NotFitting, NotNeeded
from whichmethod.later import barred, fewest_partings, is_parting, paper, safe_by, tearing, tears, unsafe
from whichmethod.mend import chain, is_chain, is_mended, lost, mend, stages, who
from whichmethod.orders import (
    cannot,
    choices,
    is_order,
    order_for,
    ring,
    settled,
    shows_ring,
    unlike,
    winners,
    won_by,
)
from whichmethod.texts import generic_in, generic_text

GENERICS = NAMED + [FAN, MIDDLE, ALWAYS_TORN, ROUND] + list(random_generics(40, 7))

# Eight kinds at two places: the 64 calls of the bounds.
WIDEST = (CUBE[0], 2, tuple((label, shape[:2]) for label, shape in CUBE[2]))

# Labels that none of them has.
FREE = [f"x{one}{other}" for one in "abcdefgh" for other in "abcdefgh"]


def mended(generic):
    """The GENERIC with a method for each SHAPE of mend, too."""
    for label, shape in zip(FREE, mend(generic)):
        generic = with_method(generic, label, shape)
    return generic


def labels_of(generic):
    return [label for label, _ in generic[2]]


def pairs_of(generic):
    return list(itertools.combinations(labels_of(generic), 2))


def renamed(generic, kinds, labels):
    """The same GENERIC with other names for its kinds and its methods."""
    rows = tuple(
        (kinds[name], tuple(sorted(kinds[upper] for upper in supers)), is_bare) for name, supers, is_bare in generic[0]
    )
    methods = [(labels[label], tuple(kinds[kind] for kind in shape)) for label, shape in generic[2]]
    return (rows, generic[1], tuple(sorted(methods)))


def all_told(generic):
    """What all functions tell that hangs on the order of the names alone, not on the names: all of it but texts."""
    told = [function(generic) for function in (shapes, torn, greatest_torn, mend, stages, lost, asked, hidden)]
    told += [function(generic) for function in (barred, fewest_partings, paper, settled, choices)]
    told += [(chosen(generic, call), nearest(generic, call), winners(generic, call)) for call in shapes(generic)]
    told += [(meet(generic, *pair), cover(generic, *pair), safe_by(generic, [], *pair)) for pair in pairs_of(generic)]
    told += [unsafe(generic, []), order_for(generic, [])] + [hiding(generic, label) for label in labels_of(generic)]
    told += [(chain(generic, shape), who(generic, shape)) for shape in mend(generic)]
    wishes = [(call, fitting(generic, call)[0]) for call in torn(generic)]
    told += [shows_asked(generic, place) for place in asked(generic)]
    return told + [ring(generic, wishes), order_for(generic, wishes), cannot(generic, wishes[:6])]


class OnceMended(unittest.TestCase):
    """A GENERIC with a method for each SHAPE of mend: guarantee (b), over mend, choose, change and the rest."""

    def test_nothing_is_torn_any_more(self):
        for generic in GENERICS + [WIDEST]:
            whole = mended(generic)
            self.assertIs(is_generic(whole), True)
            self.assertEqual(
                (torn(whole), mend(whole), stages(whole), lost(whole), settled(whole)),
                ([], [], [], [], []),
            )
            self.assertIs(is_mended(whole, []), True)

    def test_what_goes_elsewhere_is_what_was_torn_and_what_is_lost(self):
        for generic in GENERICS + [WIDEST]:
            self.assertEqual(elsewhere(generic, mended(generic)), sorted(torn(generic) + lost(generic)), generic)

    def test_each_two_methods_are_covered(self):
        for generic in GENERICS:
            whole = mended(generic)
            for one, other in pairs_of(whole):
                self.assertIsNone(meet(whole, one, other))
                covers = cover(whole, one, other)
                self.assertEqual(len(covers), len(common(whole[0], dict(whole[2])[one], dict(whole[2])[other])))

    def test_a_shape_left_out_leaves_a_torn_call(self):
        for generic in GENERICS:
            whole = mended(generic)
            for label, shape in whole[2]:
                if label not in labels_of(generic):
                    left = without(whole, label)
                    self.assertIn(shape, torn(left))
                    self.assertIn(shape, mend(left))

    def test_each_shape_is_wanted_whatever_else_is_added(self):
        for generic in GENERICS[:20]:
            needed = mend(generic)
            for shape in shapes(generic):
                if shape not in needed and shape not in dict(generic[2]).values():
                    more = with_method(generic, "xtra", shape)
                    self.assertLessEqual(set(needed), set(mend(more)), (generic, shape))

    def test_stage_by_stage(self):
        for generic in GENERICS:
            now = generic
            free = list(FREE)
            for stage in stages(generic):
                self.assertEqual(greatest_torn(now), stage)
                for shape in stage:
                    now = with_method(now, free.pop(), shape)
            self.assertEqual(torn(now), [])

    def test_along_a_chain(self):
        for generic in GENERICS:
            for shape in mend(generic):
                steps = chain(generic, shape)
                now = generic
                for label, step in zip(FREE, steps):
                    self.assertIn(step, greatest_torn(now))
                    now = with_method(now, label, step)
                self.assertIs(is_chain(generic, shape, steps), True)

    def test_who_is_without(self):
        for generic in GENERICS:
            for shape in mend(generic):
                needing = [label for label in labels_of(generic) if shape not in mend(without(generic, label))]
                self.assertEqual(who(generic, shape), needing)

    def test_mending_need_not_make_safe(self):
        whole = mended(THREE)
        self.assertIn(("p", "q"), unsafe(whole, []))
        later, call = tearing(whole, [], "p", "q")
        self.assertEqual(chosen((whole[0] + later, 1, whole[2]), call), "torn")

    def test_every_function_takes_it(self):
        for generic in GENERICS[:14] + [WIDEST]:
            whole = mended(generic)
            self.assertEqual(len(shapes(whole)), len(shapes(generic)))
            self.assertEqual(hidden(whole), [label for label in labels_of(whole) if hiding(whole, label) is not None])
            self.assertEqual(generic_in(generic_text(whole)), whole)
            for one, other in unsafe(whole, [])[:20]:
                self.assertIs(tears(whole, [], one, other, tearing(whole, [], one, other)), True)
            self.assertEqual(fewest_partings(whole) is None, bool(barred(whole)))
            self.assertEqual(won_by(whole, order_for(whole, []), shapes(whole)[0]), chosen(whole, shapes(whole)[0]))


class LaterKinds(unittest.TestCase):
    """Guarantee (c), over later, choose and change: what later kinds tear is torn once they are there."""

    def test_what_tears_is_torn_in_the_longer_one(self):
        for generic in GENERICS:
            for one, other in unsafe(generic, []):
                later, call = tearing(generic, [], one, other)
                longer = (generic[0] + later, generic[1], generic[2])
                self.assertIs(is_generic(longer), True)
                self.assertEqual(chosen(longer, call), "torn")
                self.assertLessEqual({one, other}, set(nearest(longer, call)))
                self.assertIn(call, torn(longer))
                self.assertIsNotNone(meet(longer, one, other))

    def test_for_the_calls_of_now_nothing_changes(self):
        for generic in GENERICS[:20]:
            for one, other in unsafe(generic, [])[:3]:
                later, _ = tearing(generic, [], one, other)
                longer = (generic[0] + later, generic[1], generic[2])
                for call in shapes(generic):
                    self.assertEqual(nearest(longer, call), nearest(generic, call))

    def test_the_fewest_partings_leave_none_and_the_paper_says_why(self):
        for generic in GENERICS:
            few = fewest_partings(generic)
            if few is None:
                self.assertTrue(barred(generic))
                self.assertIsNone(paper(generic))
                continue
            self.assertEqual(unsafe(generic, few), [])
            self.assertTrue(all(is_parting(generic, parting) for parting in few))
            for one, other in unsafe(generic, []):
                self.assertEqual(safe_by(generic, few, one, other)[0], "parting")
            kept = {label for pair in paper(generic) for label in pair}
            self.assertLessEqual(kept, set(labels_of(generic)))
            self.assertLessEqual(set(paper(generic)), set(unsafe(generic, [])))

    def test_what_is_torn_now_can_be_torn_later(self):
        for generic in GENERICS:
            for one, other in pairs_of(generic):
                if meet(generic, one, other) is not None:
                    self.assertIn((one, other), unsafe(generic, []))


class Orders(unittest.TestCase):
    """Guarantee (d), over orders, choose and change."""

    def test_a_winner_wins_by_every_order(self):
        for generic in GENERICS:
            order = order_for(generic, [])
            self.assertIs(is_order(generic[0], order), True)
            for call in shapes(generic):
                told = chosen(generic, call)
                self.assertEqual(won_by(generic, order, call) == "none", told == "none")
                if told not in ("none", "torn"):
                    self.assertEqual(won_by(generic, order, call), told)
                    self.assertEqual(winners(generic, call), [told])

    def test_either_an_order_or_a_ring(self):
        for generic in GENERICS:
            wishes = []
            for call in torn(generic):
                for label in nearest(generic, call):
                    more = wishes + [(call, label)]
                    order, round_about = order_for(generic, more), ring(generic, more)
                    self.assertIs(order is None, round_about is not None)
                    if order is None:
                        self.assertIs(shows_ring(generic, more, round_about), True)
                        self.assertIsNone(order_for(generic, cannot(generic, more[-8:]) or more))
                    else:
                        self.assertTrue(all(won_by(generic, order, one) == name for one, name in more))
                        wishes = more

    def test_one_choice_exactly_if_all_torn_calls_are_settled(self):
        for generic in GENERICS:
            if len(generic[0]) <= 6:
                self.assertEqual(choices(generic) == 1, settled(generic) == torn(generic), generic)

    def test_two_orders_are_unlike_at_torn_calls_alone(self):
        for generic in GENERICS:
            for call in torn(generic)[:6]:
                for label in winners(generic, call):
                    one, other = order_for(generic, []), order_for(generic, [(call, label)])
                    least = unlike(generic, one, other)
                    self.assertTrue(least is None or least in torn(generic))
                    self.assertEqual(
                        least is None,
                        all(won_by(generic, one, c) == won_by(generic, other, c) for c in torn(generic)),
                    )

    def test_once_mended_one_choice_is_left(self):
        for generic in GENERICS[:14]:
            if len(generic[0]) <= 6:
                self.assertEqual(choices(mended(generic)), 1)


class OtherNames(unittest.TestCase):
    """The same with other names: nothing hangs on them but what is the least of several, and the order of lists."""

    def kept_order(self, generic):
        """A GENERIC with other names that stand to each other as those of this one do."""
        kinds = {name: "qu" + "abcdefghijkl"[at] for at, name in enumerate(sorted(row[0] for row in generic[0]))}
        labels = {label: "me" + "abcdefghijkl"[at] for at, label in enumerate(labels_of(generic))}
        return renamed(generic, kinds, labels), kinds, labels

    def test_names_that_stand_to_each_other_the_same(self):
        for generic in GENERICS:
            other, kinds, labels = self.kept_order(generic)
            self.assertIs(is_generic(other), True)
            back = renamed(other, {new: old for old, new in kinds.items()}, {new: old for old, new in labels.items()})
            self.assertEqual(back, generic)
            names = {**kinds, **labels}
            if not set(kinds) & set(labels):
                self.assertEqual(all_told(other), self.translated(all_told(generic), names), generic)

    def translated(self, value, names):
        """A value with other names for the kinds and the labels in it."""
        if isinstance(value, (list, tuple)):
            return type(value)(self.translated(part, names) for part in value)
        return names.get(value, value) if isinstance(value, str) else value

    def test_names_the_other_way_round(self):
        for generic in GENERICS:
            kinds = sorted(row[0] for row in generic[0])
            kinds = dict(zip(kinds, reversed(kinds)))
            labels = dict(zip(labels_of(generic), reversed(labels_of(generic))))
            other = renamed(generic, kinds, labels)
            self.assertIs(is_generic(other), True)
            for function in (torn, greatest_torn, mend, lost, shapes, settled):
                self.assertEqual(function(other), self.sorted_names(function(generic), kinds), (function, generic))
            self.assertEqual(hidden(other), sorted(labels[label] for label in hidden(generic)))
            self.assertEqual(asked(other), asked(generic))
            for function in (barred, lambda one: unsafe(one, [])):
                pairs = [tuple(sorted(labels[label] for label in pair)) for pair in function(generic)]
                self.assertEqual(function(other), sorted(pairs))
            self.assertEqual(self.size(fewest_partings(other)), self.size(fewest_partings(generic)))
            self.assertEqual(self.size(paper(other)), self.size(paper(generic)))
            for label in labels_of(generic):
                self.assertEqual(self.size(hiding(other, labels[label])), self.size(hiding(generic, label)))
            if len(generic[0]) <= 6:
                self.assertEqual(choices(other), choices(generic))

    def sorted_names(self, calls, kinds):
        return sorted(tuple(kinds[kind] for kind in call) for call in calls)

    def size(self, found):
        return None if found is None else len(found)

    def test_kinds_in_another_order_of_rows(self):
        for generic in GENERICS:
            for rows in itertools.islice(itertools.permutations(generic[0]), 0, 720, 7):
                if is_kinds(rows):
                    other = (rows,) + generic[1:]
                    self.assertEqual(all_told(other), all_told(generic), other)
                    break


class OtherPlaces(unittest.TestCase):
    """The same with the places in another order."""

    def test_each_order_of_the_places(self):
        for generic in GENERICS:
            for order in itertools.permutations(range(generic[1])):
                self.check(generic, order)

    def moved(self, calls, order):
        return sorted(tuple(call[place] for place in order) for call in calls)

    def check(self, generic, order):
        kinds, places, methods = generic
        other = (kinds, places, tuple((label, tuple(shape[place] for place in order)) for label, shape in methods))
        for function in (torn, greatest_torn, mend, lost):
            self.assertEqual(function(other), self.moved(function(generic), order), (function, generic))
        self.assertEqual([self.moved(stage, order) for stage in stages(generic)], stages(other))
        self.assertEqual(asked(other), sorted(order.index(place) for place in asked(generic)))
        self.assertEqual(hidden(other), hidden(generic))
        self.assertEqual(
            [hiding(other, name) for name in labels_of(other)],
            [hiding(generic, name) for name in labels_of(generic)],
        )
        self.assertEqual(unsafe(other, []), unsafe(generic, []))
        self.assertEqual((fewest_partings(other), paper(other)), (fewest_partings(generic), paper(generic)))
        for call in shapes(generic):
            self.assertEqual(nearest(other, tuple(call[place] for place in order)), nearest(generic, call))


class OneKindMore(unittest.TestCase):
    """A kind more that nobody names, beside all others or below one of them."""

    def test_what_stays(self):
        for generic in GENERICS:
            if len(shapes(generic)) > 64:
                continue
            for is_bare in (False, True):
                more = (generic[0] + (("zzz", (), is_bare),),) + generic[1:]
                for function in (torn, greatest_torn, mend, stages, lost, barred, settled, fewest_partings, paper):
                    self.assertEqual(function(more), function(generic), (function, generic))
                self.assertEqual(unsafe(more, []), unsafe(generic, []))
                self.assertEqual(hidden(more), hidden(generic))
                for label in labels_of(generic):
                    self.assertEqual(hiding(more, label), hiding(generic, label))
                for call in shapes(more):
                    self.assertEqual(chosen(more, call), "none" if "zzz" in call else chosen(generic, call))
                # What is not for every kind is asked now, as the further one has none.
                self.assertLessEqual(set(asked(generic)), set(asked(more)))
                self.assertEqual(asked(more), list(range(generic[1])) if generic[2] else [])

    def test_a_kind_below_another_is_called_as_that_one(self):
        for generic in GENERICS:
            upper = generic[0][-1][0]
            more = (generic[0] + (("zzz", (upper,), False),),) + generic[1:]
            for call in shapes(more):
                over = tuple(upper if kind == "zzz" else kind for kind in call)
                self.assertEqual(nearest(more, call), nearest(generic, over))
            self.assertEqual(asked(more), asked(generic))
            self.assertLessEqual(set(hidden(more)), set(hidden(generic)))


class MethodsMoreAndLess(unittest.TestCase):
    def test_a_change_and_back(self):
        for generic in GENERICS:
            for label, shape in generic[2]:
                left = without(generic, label)
                self.assertEqual(with_method(left, label, shape), generic)
                self.assertEqual(elsewhere(left, generic), elsewhere(generic, left))
                changed = [call for call in shapes(generic) if chosen(left, call) != chosen(generic, call)]
                self.assertEqual(elsewhere(left, generic), changed)

    def test_a_hidden_one_with_more_methods_stays_hidden(self):
        for generic in GENERICS:
            for label in hidden(generic):
                for shape in shapes(generic):
                    if shape not in dict(generic[2]).values():
                        self.assertIn(label, hidden(with_method(generic, "xtra", shape)))

    def test_without_one_of_its_smallest_set_it_may_need_another(self):
        for generic in GENERICS:
            for label in hidden(generic):
                found = hiding(generic, label)
                for other in found:
                    left = hiding(without(generic, other), label)
                    self.assertTrue(left is None or (len(left), left) > (len(found), found), (generic, label, other))

    def test_an_unsafe_pair_is_not_so_with_a_method_for_all_that_both_fit(self):
        generic = with_method(SIDE, "r", ("a", "a"))
        self.assertEqual(unsafe(generic, []), [])
        self.assertEqual(safe_by(generic, [], "p", "q"), ("method", "r"))
        self.assertEqual(unsafe(without(generic, "r"), []), [("p", "q")])


class BesideTheDesk(unittest.TestCase):
    """What the desk answers beside what the functions tell."""

    def rows(self, sign, rows):
        return ", ".join(sign.join(row) for row in rows) or "-"

    def words(self, found):
        return "none" if found is None else " ".join(found)

    def told(self, function, *values):
        try:
            return function(*values)
        except (NotNeeded, NotFitting) as error:
            return f"refused {type(error).__name__}"

    def all_requests(self, generic, wishes):
        """All requests that change nothing, each with its answer."""
        for call in shapes(generic):
            shape = " ".join(call)
            answer = chosen(generic, call)
            yield f"choose {shape}", " ".join([answer] + nearest(generic, call)) if answer == "torn" else answer
            yield f"chain {shape}", self.told(lambda one: self.rows(" ", chain(generic, one)), call)
        for word, function in (("torn", torn), ("mend", mend), ("lost", lost)):
            yield word, self.rows(" ", function(generic))
        few = fewest_partings(generic)
        yield "unsafe", self.rows("+", unsafe(generic, []))
        yield "partings", "impossible" if few is None else self.rows("+", few)
        yield "order", self.told(lambda: self.words(order_for(generic, wishes)))
        yield "ring", self.told(lambda: self.words(ring(generic, wishes)))
        yield "hidden", " ".join(hidden(generic)) or "-"

    def asked(self, generic, requests):
        return answers("\n".join([generic_text(generic), ""] + requests))

    def test_all_requests(self):
        for generic in GENERICS + [WIDEST]:
            rows = list(self.all_requests(generic, []))
            self.assertEqual(self.asked(generic, [row[0] for row in rows]), [row[1] for row in rows])

    def test_a_generic_mended_at_the_desk(self):
        for generic in GENERICS:
            whole = mended(generic)
            adds = [f"add {label} {' '.join(shape)}" for label, shape in whole[2] if label not in labels_of(generic)]
            rows = list(self.all_requests(whole, []))
            told = self.asked(generic, adds + [row[0] for row in rows])
            self.assertEqual(told, ["done"] * len(adds) + [row[1] for row in rows])
            self.assertEqual(self.asked(whole, [row[0] for row in rows]), [row[1] for row in rows])

    def test_with_wishes(self):
        for generic in GENERICS:
            wishes = [(call, name) for call in torn(generic)[:6] for name in nearest(generic, call)[::-1]][:5]
            lines = [f"wish {label} {' '.join(call)}" for call, label in wishes]
            for many in range(len(wishes) + 1):
                rows = list(self.all_requests(generic, wishes[:many]))
                told = self.asked(generic, lines[:many] + [row[0] for row in rows])
                self.assertEqual(told, ["done"] * many + [row[1] for row in rows])

    def test_dropped_and_added_again(self):
        for generic in GENERICS:
            rows = list(self.all_requests(generic, []))
            drops = [f"drop {label}" for label in labels_of(generic)]
            adds = [f"add {label} {' '.join(shape)}" for label, shape in reversed(generic[2])]
            told = self.asked(generic, drops + adds + [row[0] for row in rows])
            self.assertEqual(told, ["done"] * len(drops + adds) + [row[1] for row in rows])

    def test_a_text_of_sixty_lines(self):
        adds = [f"add x{one}{other} {one} {other}" for one, other in itertools.product("abcdefgh", repeat=2)][:40]
        now = (CUBE[0], 2, ())
        for line in adds:
            now = with_method(now, line.split(" ")[1], line.split(" ")[2:])
        told = self.asked((CUBE[0], 2, ()), adds + ["torn", "mend", "lost", "unsafe", "partings", "order", "hidden"])
        self.assertEqual(told[40:43], [self.rows(" ", torn(now)), self.rows(" ", mend(now)), self.rows(" ", lost(now))])
        few = fewest_partings(now)
        self.assertEqual(
            told[43:45],
            [self.rows("+", unsafe(now, [])), "impossible" if few is None else self.rows("+", few)],
        )
        self.assertEqual(told[45:], [" ".join(order_for(now, [])), " ".join(hidden(now)) or "-"])


class Samples(unittest.TestCase):
    """Nothing here is asked of GENERICs alone for which there is nothing to tell."""

    def test_some_of_each(self):
        self.assertTrue([generic for generic in GENERICS if hidden(generic)])
        self.assertTrue([generic for generic in GENERICS if len(stages(generic)) > 1])
        self.assertTrue([generic for generic in GENERICS if lost(generic)])
        self.assertTrue([generic for generic in GENERICS if fewest_partings(generic)])
        self.assertTrue([generic for generic in GENERICS if settled(generic)])
        self.assertTrue([generic for generic in GENERICS if 0 < len(asked(generic)) < generic[1]])
        self.assertEqual(max(len(shapes(generic)) for generic in GENERICS), 64)


if __name__ == "__main__":
    unittest.main()
