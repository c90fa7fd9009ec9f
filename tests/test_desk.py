"""Promise [12]: a desk."""

import itertools
import random
import unittest

from tests import plain, samples
from tests.samples import BARE, BOTH, DEEP, EMPTY, KINDS, NAMED, NOTHING, ONE, SIDE, THINGS, THREE, WIDE
from tests.test_mend import GRID
from tests.test_texts import WORDS, spoilt
from whichmethod.desk import answers
from whichmethod.errors import BadLine
from whichmethod.texts import generic_text


def ask(generic, *requests):
    return answers("\n".join([generic_text(generic), "", *requests]))


# The document's own.
EXAMPLE = (
    "generic 1\nkind a\nkind b\nkind c a b\nmethod p a\nmethod q b\n"
    "\nchoose c\nmend\nwish q c\norder\nadd r c\ntorn"
)

# Three wishes can go round here.
ROUND = (
    (
        ("a", (), False),
        ("b", (), False),
        ("c", (), False),
        ("x", ("a", "b"), False),
        ("y", ("b", "c"), False),
        ("z", ("a", "c"), True),
    ),
    1,
    (("p", ("a",)), ("q", ("b",)), ("r", ("c",))),
)


class Answers(unittest.TestCase):
    def test_the_example(self):
        self.assertEqual(answers(EXAMPLE), ["torn p q", "c", "done", "c b a", "done", "-"])

    def test_no_requests(self):
        self.assertEqual(answers("generic 1\nkind a\n"), [])
        self.assertEqual(answers(generic_text(THREE) + "\n"), [])

    def test_choose(self):
        self.assertEqual(ask(THREE, "choose a", "choose c", "choose d", "choose e"), ["p", "r", "torn p q", "r"])
        self.assertEqual(ask(SIDE, "choose a t", "choose t t", "choose a a"), ["p", "none", "torn p q"])
        self.assertEqual(ask(DEEP, "choose m m l"), ["torn p q r"])
        self.assertEqual(ask(NOTHING, "choose only"), ["none"])
        self.assertEqual(ask(THINGS, "choose a"), ["p"])

    def test_torn(self):
        self.assertEqual(ask(THREE, "torn"), ["d"])
        self.assertEqual(ask(BOTH, "torn"), ["c, d, e"])
        self.assertEqual(ask(SIDE, "torn"), ["a a"])
        self.assertEqual(ask(WIDE, "torn"), ["-"])

    def test_mend(self):
        self.assertEqual(ask(THREE, "mend"), ["d, e"])
        self.assertEqual(ask(SIDE, "mend"), ["a a"])
        self.assertEqual(ask(ONE, "mend"), ["-"])
        generic = (KINDS, 2, (("p", ("a", "a")), ("q", ("b", "b"))))
        self.assertEqual(ask(generic, "mend")[0][:20], "c c, c d, c e, d c, ")

    def test_lost(self):
        self.assertEqual(ask(THREE, "lost"), ["e"])
        self.assertEqual(ask(BOTH, "lost"), ["-"])
        self.assertEqual(ask(GRID, "lost"), ["c e, e c"])

    def test_chain(self):
        self.assertEqual(ask(THREE, "chain e", "chain d"), ["d, e", "d"])
        self.assertEqual(ask(SIDE, "chain a a"), ["a a"])
        self.assertEqual(ask(THREE, "chain c", "chain a"), ["refused NotNeeded"] * 2)

    def test_unsafe(self):
        self.assertEqual(ask(WIDE, "unsafe"), ["p+q"])
        self.assertEqual(ask(DEEP, "unsafe"), ["p+q, p+r, q+r"])
        self.assertEqual(ask(ONE, "unsafe"), ["-"])

    def test_partings(self):
        self.assertEqual(ask(WIDE, "partings"), ["a+b"])
        self.assertEqual(ask(THREE, "partings"), ["impossible"])
        self.assertEqual(ask(ONE, "partings"), ["-"])
        kinds = tuple((name, (), False) for name in "abc")
        self.assertEqual(ask((kinds, 1, (("p", ("a",)), ("q", ("b",)), ("r", ("c",)))), "partings"), ["a+b, a+c, b+c"])

    def test_order(self):
        self.assertEqual(ask(BOTH, "order"), ["e c d a b"])
        self.assertEqual(ask(ONE, "order"), ["only"])
        self.assertEqual(ask(BOTH, "wish q c", "order"), ["done", "e c d b a"])
        self.assertEqual(ask(BOTH, "wish q c", "wish p d", "order"), ["done", "done", "none"])

    def test_ring(self):
        self.assertEqual(ask(BOTH, "ring"), ["none"])
        self.assertEqual(ask(BOTH, "wish q c", "ring", "wish p d", "ring"), ["done", "none", "done", "a b"])
        self.assertEqual(ask(ROUND, "wish p x", "wish q y", "wish r z", "ring"), ["done"] * 3 + ["a b c"])

    def test_hidden(self):
        self.assertEqual(ask(THINGS, "hidden"), ["p"])
        self.assertEqual(ask(BARE, "hidden"), ["p q"])
        self.assertEqual(ask(THREE, "hidden"), ["-"])
        self.assertEqual(ask(NOTHING, "hidden"), ["-"])

    def test_a_new_list_each_time(self):
        text = generic_text(BOTH) + "\n\ntorn\nmend"
        first = answers(text)
        first.append("more")
        self.assertEqual(answers(text), ["c, d, e", "c, d, e"])

    def test_texts_with_words_of_the_requests(self):
        kinds = (("torn", (), False), ("none", (), False), ("wish", ("none", "torn"), False))
        generic = (kinds, 1, (("choose", ("torn",)), ("drop", ("none",))))
        self.assertEqual(
            ask(generic, "choose torn", "choose wish", "torn", "wish drop wish", "order", "drop drop", "choose wish"),
            ["choose", "torn choose drop", "wish", "done", "wish none torn", "done", "choose"],
        )
        self.assertEqual(ask(WORDS, "choose kind bare", "drop bare", "choose kind bare"), ["bare", "done", "kind"])


class Wishes(unittest.TestCase):
    def test_those_that_were_kept_before_count_alone(self):
        self.assertEqual(
            ask(BOTH, "order", "wish q c", "order", "wish q d", "order"),
            ["e c d a b", "done", "e c d b a", "done", "e c d b a"],
        )

    def test_the_same_twice(self):
        self.assertEqual(ask(BOTH, "wish q c", "wish q c", "order", "ring"), ["done", "done", "e c d b a", "none"])

    def test_one_that_does_not_fit(self):
        refused = "refused NotFitting"
        self.assertEqual(ask(BOTH, "wish q a", "order", "ring"), ["done", refused, refused])
        self.assertEqual(ask(BOTH, "wish x a", "ring", "order", "torn"), ["done", refused, refused, "c, d, e"])
        self.assertEqual(ask(BOTH, "wish q c", "wish p d", "wish q a", "ring"), ["done"] * 3 + [refused])

    def test_one_that_does_not_fit_any_more(self):
        self.assertEqual(
            ask(BOTH, "wish q c", "order", "drop q", "order", "ring", "add q b", "order"),
            ["done", "e c d b a", "done", "refused NotFitting", "refused NotFitting", "done", "e c d b a"],
        )
        self.assertEqual(
            ask(BOTH, "wish q c", "drop q", "add q a", "drop p", "add q a", "order", "drop q", "add q e", "order"),
            ["done", "done", "refused Doubled", "done", "done", "e c d a b", "done", "done", "refused NotFitting"],
        )

    def test_one_that_only_fits_later(self):
        self.assertEqual(
            ask(BOTH, "wish r c", "order", "add r c", "order"),
            ["done", "refused NotFitting", "done", "e c d a b"],
        )

    def test_wishes_change_nothing_else(self):
        requests = ["choose d", "torn", "mend", "lost", "chain e", "unsafe", "partings", "hidden"]
        told = ask(THREE, *requests)
        self.assertEqual(ask(THREE, "wish q d", "wish p e", "wish x a", *requests)[3:], told)

    def test_a_ring_comes_and_goes_with_a_method(self):
        self.assertEqual(
            ask(BOTH, "wish q c", "ring", "add r c", "ring", "order", "drop r", "ring", "order"),
            ["done", "none", "done", "b c", "none", "done", "none", "e c d b a"],
        )
        self.assertEqual(
            ask(BOTH, "wish q c", "wish p d", "ring", "add r d", "ring", "drop r", "ring"),
            ["done", "done", "a b", "done", "a b", "done", "a b"],
        )

    def test_sixty_four(self):
        wishes = ["wish q c", "wish q d"] * 32
        self.assertEqual(ask(BOTH, *wishes, "order", "wish p e", "ring"), ["done"] * 64 + ["e c d b a", "done", "a b"])


class Changes(unittest.TestCase):
    def test_add_and_drop(self):
        self.assertEqual(
            ask(BOTH, "torn", "add r c", "torn", "mend", "lost", "drop r", "torn", "lost"),
            ["c, d, e", "done", "d", "d, e", "e", "done", "c, d, e", "-"],
        )

    def test_what_is_added_wins(self):
        self.assertEqual(ask(NOTHING, "choose only", "add m only", "choose only"), ["none", "done", "m"])
        self.assertEqual(ask(SIDE, "add r a a", "choose a a", "unsafe"), ["done", "r", "-"])

    def test_add_what_is_there(self):
        self.assertEqual(ask(BOTH, "add p c", "add r a", "add p a", "torn"), ["refused Doubled"] * 3 + ["c, d, e"])
        self.assertEqual(ask(BOTH, "add r c", "add r d", "add s c"), ["done"] + ["refused Doubled"] * 2)

    def test_drop_what_is_not_there(self):
        self.assertEqual(ask(BOTH, "drop x", "drop a", "torn"), ["refused NoMethod"] * 2 + ["c, d, e"])
        self.assertEqual(ask(BOTH, "drop p", "drop p", "drop q", "drop q"), ["done", "refused NoMethod"] * 2)
        self.assertEqual(ask(EMPTY, "drop p"), ["refused NoMethod"])

    def test_drop_and_add_again(self):
        self.assertEqual(
            ask(BOTH, "drop p", "torn", "add p a", "torn", "choose c"),
            ["done", "-", "done", "c, d, e", "torn p q"],
        )
        self.assertEqual(ask(BOTH, "drop p", "add a a", "choose c"), ["done", "done", "torn a q"])

    def test_without_any_method(self):
        self.assertEqual(
            ask(ONE, "drop m", "torn", "mend", "lost", "unsafe", "partings", "order", "ring", "hidden", "choose only"),
            ["done", "-", "-", "-", "-", "-", "only", "none", "-", "none"],
        )

    def test_partings_change(self):
        self.assertEqual(
            ask(WIDE, "partings", "add r a y", "partings", "drop q", "partings", "drop p", "partings"),
            ["a+b", "done", "a+b, x+y", "done", "x+y", "done", "-"],
        )

    def test_hidden_changes(self):
        self.assertEqual(
            ask(THINGS, "hidden", "drop r", "hidden", "add r a", "add r d", "hidden"),
            ["p", "done", "-", "refused Doubled", "done", "p"],
        )

    def test_mended_by_hand(self):
        self.assertEqual(
            ask(THREE, "chain e", "add s d", "torn", "chain e", "chain d", "add t e", "torn", "mend", "chain e"),
            ["d, e", "done", "e", "e", "refused NotNeeded", "done", "-", "-", "refused NotNeeded"],
        )

    def test_many_are_added(self):
        kinds = tuple((name, (), False) for name in "abcdefgh")
        labels = [one + other for one in "klmnop" for other in "abcdefgh"][:48]
        all_shapes = itertools.product("abcdefgh", repeat=2)
        adds = [f"add {label} {one} {other}" for label, (one, other) in zip(labels, all_shapes)]
        told = ask((kinds, 2, ()), *adds, "torn", "choose a a", "hidden", "order", "lost")
        self.assertEqual(told, ["done"] * 48 + ["-", "ka", "-", "a b c d e f g h", "-"])

    def test_partings_of_many_methods(self):
        kinds = tuple((name, (), False) for name in "abcde")
        adds = [f"add m{name} {name}" for name in "abcde"]
        told = ask((kinds, 1, ()), *adds, "partings")
        self.assertEqual(told[-1], "a+b, a+c, a+d, a+e, b+c, b+d, b+e, c+d, c+e, d+e")


class BadLines(unittest.TestCase):
    def bad(self, number, *texts):
        for text in texts:
            with self.subTest(text=text):
                with self.assertRaises(BadLine) as caught:
                    answers(text)
                self.assertEqual(caught.exception.number, number)

    def behind(self, number, *requests):
        """Each of the requests is bad, the last line of its text."""
        head = "generic 2\nkind a\nkind b\nmethod p a b\n\n" + "torn\n" * (number - 5)
        for request in requests:
            text = head + request
            self.bad(number, text, text + "\n", text + "\ntorn\nx", text + "\n\n")

    def test_the_lines_of_the_generic(self):
        self.bad(0, "x", "generic 0\nkind a\n\ntorn", "kind a\n\ntorn", "x\n\ntorn")
        self.bad(1, "generic 1\nkind A\n\ntorn", "generic 1\nmethod p a\n\nx", "generic 1\ntorn\n\nkind a")
        self.bad(2, "generic 1\nkind a\nkind a\n\nx", "generic 1\nkind a\nmethod p b", "generic 1\nkind a\ntorn\n\n")

    def test_ahead_of_all_behind_it(self):
        self.bad(2, "generic 1\nkind a\nx", "generic 1\nkind a\nx\n\nx", "generic 1\nkind a\n \n\ntorn")

    def test_no_kind(self):
        self.bad(1, "generic 1\n", "generic 1\n\ntorn", "generic 1\n\nx", "generic 1\n\nkind a", "generic 1\n\n\n")
        self.bad(1, "generic 1")
        self.bad(0, "", "\n", "\n\n", "\ngeneric 1\nkind a\n\ntorn", "\nx")

    def test_no_empty_line(self):
        self.bad(2, "generic 1\nkind a")
        self.bad(3, "generic 1\nkind a\nmethod p a")
        self.bad(9, generic_text(THREE))

    def test_another_empty_line(self):
        self.bad(3, "generic 1\nkind a\n\n", "generic 1\nkind a\n\n\ntorn", "generic 1\nkind a\n\n\n")
        self.bad(4, "generic 1\nkind a\n\ntorn\n", "generic 1\nkind a\n\ntorn\n\ntorn")

    def test_a_line_feed_at_the_end(self):
        self.bad(13, EXAMPLE + "\n")

    def test_words_that_are_no_request(self):
        self.behind(5, "x", "done", "kind c", "method q a a", "generic 1", "chose a b", "Torn", "TORN", "-", "refused")
        self.behind(5, "stages", "who a b", "hiding p", "settled", "barred", "is", "none", "label p")

    def test_something_missing(self):
        self.behind(5, "choose", "choose a", "chain", "chain a", "drop")
        self.behind(5, "wish", "wish p", "wish p a", "wish a b", "add", "add q", "add q a", "add a b")

    def test_something_too_much(self):
        plain_words = ("torn", "mend", "lost", "unsafe", "partings", "order", "ring", "hidden")
        self.behind(5, *[f"{word} {more}" for word in plain_words for more in ("a", "a b", "p", word)])
        self.behind(5, "choose a b a", "chain a b a", "wish p a b a", "add q a b a")
        self.behind(5, "drop p a", "drop p a b", "drop p q")

    def test_kinds_that_are_not_there(self):
        self.behind(6, "choose a c", "choose c a", "chain a p", "wish p a c", "add q c c", "choose p p", "choose A b")
        self.behind(6, "choose a,b", "choose a 1", "choose none torn")

    def test_labels_by_form_alone(self):
        for label in ("none", "torn", "abcdefghi", "P", "p1", "1", "-", "\xe9", "p+q", "\u0430"):
            self.behind(7, f"wish {label} a b", f"add {label} a b", f"drop {label}")
        self.assertEqual(
            ask(SIDE, "wish x a a", "add abcdefgh t t", "drop unknown", "drop nones", "wish a t t", "wish torns a a"),
            ["done", "done", "refused NoMethod", "refused NoMethod", "done", "done"],
        )

    def test_blanks(self):
        for request in ("torn", "choose a b", "wish p a b", "add q a a", "drop p"):
            more = [request.replace(" ", blank) for blank in ("  ", "\t", "\xa0", "\n") if " " in request]
            self.behind(5, request + " ", " " + request, request + "\t", request + "\r", request.upper(), *more)
        self.behind(6, " ", "\t", "\r", "\xa0", "  ")

    def test_ahead_of_all_answers(self):
        head = generic_text(BOTH) + "\n\n"
        self.bad(11, head + "drop x\nadd p c\nchoose\ntorn")
        self.bad(9, head + "torn extra\nchoose")
        self.bad(10, head + "chain a\nwish torn a\nx")

    def test_a_request_is_read_by_the_kinds_not_by_the_methods(self):
        self.assertEqual(
            ask(BOTH, "drop p", "drop q", "choose a", "wish p a", "chain e"),
            ["done", "done", "none", "done", "refused NotNeeded"],
        )

    def test_any_other_string(self):
        self.bad(0, "\x00", "{}", "%s", "generic 1\\n", "\ud800", "a" * 10000, "generic \u0661\nkind a\n\ntorn")
        self.bad(0, "generic 1\r\nkind a\r\n\r\ntorn", "generic 1\u2028kind a\n\ntorn")

    def test_each_line_spoilt_in_turn(self):
        lines = generic_text(THREE).split("\n") + ["", "choose d", "torn", "chain e", "wish q c", "wish p d", "order"]
        lines += ["ring", "add r c", "drop p", "hidden", "lost"]
        for at, line in enumerate(lines):
            for other in spoilt(line):
                self.check(lines[:at] + [other] + lines[at + 1 :])
            self.check(lines[:at] + lines[at + 1 :])
            self.check(lines[: at + 1] + lines[at:])
            for place in range(len(lines)):
                rest = lines[:at] + lines[at + 1 :]
                self.check(rest[:place] + [line] + rest[place:])
        for at in range(len(lines) + 1):
            self.check(lines[:at])

    def check(self, lines):
        text = "\n".join(lines)
        number = plain.bad_desk_line(text)
        if number is None:
            count = len(text.split("\n")) - text.split("\n").index("") - 1
            self.assertEqual(len(answers(text)), count)
        else:
            with self.assertRaises(BadLine) as caught:
                answers(text)
            self.assertEqual(caught.exception.number, number, text)

    def test_short_requests_of_all_words(self):
        words = ("choose", "torn", "chain", "wish", "add", "drop", "order", "a", "p", "none", "")
        head = ["generic 1", "kind a", "method p a", ""]
        for size in range(4):
            for row in itertools.product(words, repeat=size):
                self.check(head + [" ".join(row)])


class Whole(unittest.TestCase):
    """A desk of the test's own, by plain search: what each request tells, also after many changes."""

    def told(self, generic, wishes, words):
        name, *rest = words
        if name == "choose":
            answer = plain.chosen(generic, tuple(rest))
            near = samples.nearest_labels(generic, tuple(rest))
            return " ".join(["torn"] + near) if answer == "torn" else answer
        if name in ("torn", "mend", "lost"):
            rows = {"torn": plain.torn_calls, "mend": plain.mend, "lost": plain.lost}[name](generic)
            return ", ".join(" ".join(row) for row in rows) or "-"
        if name == "hidden":
            return " ".join(plain.hidden(generic)) or "-"
        fits = all(label in samples.fitting_labels(generic, call) for call, label in wishes)
        if not fits:
            return "refused NotFitting"
        found = plain.fulfilling(generic, wishes) if name == "order" else plain.rings(generic, wishes)
        return " ".join(found[0]) if found else "none"

    def changed(self, generic, words):
        """The GENERIC after a request, and the answer."""
        kinds, places, methods = generic
        name, label, *shape = words
        if name == "drop":
            left = tuple(row for row in methods if row[0] != label)
            return ((kinds, places, left), "done") if left != methods else (generic, "refused NoMethod")
        if label in dict(methods) or tuple(shape) in dict(methods).values():
            return generic, "refused Doubled"
        return (kinds, places, tuple(sorted(methods + ((label, tuple(shape)),)))), "done"

    def check(self, generic, requests):
        wanted = []
        wishes = []
        now = generic
        for request in requests:
            words = request.split(" ")
            if words[0] in ("add", "drop"):
                now, answer = self.changed(now, words)
            elif words[0] == "wish":
                wishes.append((tuple(words[2:]), words[1]))
                answer = "done"
            else:
                answer = self.told(now, wishes, words)
            wanted.append(answer)
        self.assertEqual(ask(generic, *requests), wanted, (generic, requests))

    def some_requests(self, chance, generic, many):
        labels = [label for label, _ in generic[2]] + ["new", "x"]
        for _ in range(many):
            shape = " ".join(chance.choice(samples.all_shapes_of(generic)))
            label = chance.choice(labels)
            fits = chance.choice(samples.fitting_labels(generic, tuple(shape.split(" "))) or labels)
            # Most wishes fit at first: behind one that does not, order and ring are refused.
            wish = f"wish {fits if chance.random() < 0.9 else label} {shape}"
            yield chance.choice(
                ["torn", "mend", "lost", "hidden", "order", "ring", "order", "ring", f"choose {shape}", wish, wish]
                + [f"add {label} {shape}", f"drop {label}"]
            )

    def test_the_named_ones(self):
        chance = random.Random(12)
        for generic in NAMED + [ROUND]:
            if len(generic[0]) ** generic[1] <= 32:
                for _ in range(6):
                    self.check(generic, list(self.some_requests(chance, generic, 20)))

    def test_small_ones(self):
        chance = random.Random(21)
        for generic in itertools.islice(samples.small_generics(), 0, None, 97):
            self.check(generic, list(self.some_requests(chance, generic, 14)))


if __name__ == "__main__":
    unittest.main()
