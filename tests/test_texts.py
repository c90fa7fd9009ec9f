"""Promise [11]: GENERICs as texts."""

import itertools
import unittest

from tests import plain, samples
from tests.samples import BARE, CUBE, DEEP, EMPTY, NAMED, NOTHING, ONE, SIDE, SWAPPED, THINGS, THREE, WIDE
from whichmethod.data import is_generic, shapes
from whichmethod.errors import BadLine
from whichmethod.texts import generic_in, generic_text

# Kinds and methods that are called as the words of the texts are.
WORDS = (
    (
        ("kind", (), False),
        ("bare", ("kind",), True),
        ("method", ("bare", "kind"), False),
        ("generic", ("method",), True),
        ("torn", (), False),
        ("none", (), True),
    ),
    2,
    (
        ("bare", ("kind", "bare")),
        ("generic", ("torn", "none")),
        ("kind", ("kind", "kind")),
        ("method", ("bare", "bare")),
    ),
)
WORDS_TEXT = """\
generic 2
kind kind
bare kind bare kind
kind method bare kind
bare kind generic method
kind torn
bare kind none
method bare kind bare
method generic torn none
method kind kind kind
method method bare bare"""

THREE_TEXT = """\
generic 1
kind a
kind b
kind c a b
kind d a b
kind e c d
method p a
method q b
method r c"""


def spoilt(line):
    """Many lines that are like this one, most of them not as they must be."""
    words = line.split(" ")
    yield from (line + " ", " " + line, line + "\t", line + "\r", line + "\x0b", line + ".", line.upper(), line.title())
    yield from (line.replace(" ", "  ", 1), line.replace(" ", "\t", 1), line.replace(" ", "\xa0", 1), "", " ", "x")
    for at in range(len(words)):
        yield " ".join(words[:at] + words[at + 1 :])
        yield " ".join(words[: at + 1] + words[at:])
        for word in ("", "a", "b", "z", "none", "torn", "kind", "bare", "method", "generic", "0", "1", "2", "01", "-1"):
            yield " ".join(words[:at] + [word] + words[at + 1 :])
            yield " ".join(words[:at] + [word] + words[at:])
        for letter in ("A", "\xe9", "\u0430", "1", "_", "-", "\u0661", "\xb2", "aaaaaaaa"):
            yield " ".join(words[:at] + [words[at] + letter] + words[at + 1 :])
            yield " ".join(words[:at] + [letter] + words[at + 1 :])
    for one, other in itertools.combinations(range(len(words)), 2):
        swapped = list(words)
        swapped[one], swapped[other] = words[other], words[one]
        yield " ".join(swapped)


class GenericText(unittest.TestCase):
    def test_the_example(self):
        self.assertEqual(generic_text(SIDE), "generic 2\nkind t\nkind a t\nmethod p a t\nmethod q t a")

    def test_supers_and_methods(self):
        self.assertEqual(generic_text(THREE), THREE_TEXT)

    def test_bare_kinds(self):
        self.assertEqual(
            generic_text(BARE),
            "generic 1\nbare kind z\nbare kind y z\nbare kind x z\nmethod p y\nmethod q x",
        )
        self.assertEqual(generic_text(EMPTY), "generic 3\nkind b\nbare kind a b")

    def test_one_kind(self):
        self.assertEqual(generic_text(NOTHING), "generic 1\nkind only")
        self.assertEqual(generic_text(ONE), "generic 1\nkind only\nmethod m only")

    def test_kinds_in_their_own_order(self):
        lines = generic_text(SWAPPED).split("\n")
        self.assertEqual(lines[1:5], ["kind torn", "bare kind none", "kind b none torn", "kind a b none"])

    def test_words_of_the_texts(self):
        self.assertEqual(generic_text(WORDS), WORDS_TEXT)

    def test_lists(self):
        for generic in NAMED + [WORDS]:
            self.assertEqual(generic_text(samples.as_lists(generic)), generic_text(generic))

    def test_several_digits(self):
        self.assertEqual(generic_text((ONE[0], 12, ())), "generic 12\nkind only")
        self.assertEqual(generic_text((ONE[0], 9999, ())), "generic 9999\nkind only")


class GenericIn(unittest.TestCase):
    def bad(self, number, *texts):
        for text in texts:
            with self.subTest(text=text):
                with self.assertRaises(BadLine) as caught:
                    generic_in(text)
                self.assertEqual(caught.exception.number, number)
                self.assertIs(type(caught.exception.number), int)

    def test_it_undoes_generic_text(self):
        for generic in NAMED + [CUBE, WORDS]:
            self.assertEqual(generic_in(generic_text(generic)), generic)
            self.assertIs(is_generic(generic_in(generic_text(generic))), True)
        for generic in itertools.islice(samples.small_generics(), 0, None, 17):
            self.assertEqual(generic_in(generic_text(generic)), generic)

    def test_true_and_false(self):
        kinds = generic_in("generic 1\nbare kind a\nkind b a")[0]
        self.assertIs(kinds[0][2], True)
        self.assertIs(kinds[1][2], False)

    def test_one_kind(self):
        self.assertEqual(generic_in("generic 1\nkind only"), NOTHING)
        self.assertEqual(generic_in("generic 3\nbare kind a"), ((("a", (), True),), 3, ()))

    def test_words_of_the_texts(self):
        self.assertEqual(generic_in(WORDS_TEXT), WORDS)
        self.assertEqual(
            generic_in("generic 1\nkind bare\nbare kind kind")[0],
            (("bare", (), False), ("kind", (), True)),
        )
        self.assertEqual(generic_in("generic 1\nkind kind\nkind bare kind")[0][1], ("bare", ("kind",), False))

    def test_no_kind(self):
        self.bad(1, "generic 1", "generic 3", "generic 9999")

    def test_no_kind_behind_other_lines(self):
        self.bad(1, "generic 1\n", "generic 1\nmethod p a", "generic 1\n\n", "generic 1\nx\nkind a")

    def test_empty_texts(self):
        self.bad(0, "", "\n", "\n\n", " ", "\t", "\ngeneric 1\nkind a")

    def test_the_first_line(self):
        self.bad(0, "kind a", "kind a\ngeneric 1", "method p a", "generic", "generic ", "generic a", "generic 1 1")
        self.bad(0, " generic 1\nkind a", "Generic 1\nkind a", "generic  1\nkind a", "generic 1 \nkind a", "generic\t1")

    def test_places(self):
        for places in (1, 2, 3, 9, 10, 64, 100, 1000, 9999):
            self.assertEqual(generic_in(f"generic {places}\nkind a"), ((("a", (), False),), places, ()))
        for word in ("0", "00", "01", "001", "0001", "10000", "99999", "-1", "+1", "1.0", "1_0", "0x1", "1e1", "", "a"):
            self.bad(0, f"generic {word}\nkind a", f"generic {word}")

    def test_digits_of_other_scripts(self):
        for word in ("\u0661", "\xb2", "\uff11", "1\u0661", "\u0967", "\u2460", "\U0001d7cf", "1\xb2"):
            self.bad(0, f"generic {word}\nkind a")

    def test_only_one_line_for_the_places(self):
        self.bad(1, "generic 1\ngeneric 1\nkind a", "generic 1\ngeneric 2")
        self.bad(2, "generic 1\nkind a\ngeneric 1")
        self.bad(3, "generic 1\nkind a\nmethod p a\ngeneric 1")

    def test_kinds_ahead_of_methods(self):
        self.bad(3, "generic 1\nkind a\nmethod p a\nkind b", "generic 1\nkind a\nmethod p a\nbare kind b")

    def test_a_kind_behind_its_supers(self):
        self.bad(1, "generic 1\nkind a b\nkind b", "generic 1\nkind a a")
        self.bad(
            2, "generic 1\nkind a\nkind b c\nkind c", "generic 1\nkind a\nkind b a b", "generic 1\nkind a\nkind c a d"
        )

    def test_supers_ascend(self):
        self.assertEqual(generic_in("generic 1\nkind b\nkind a\nkind c a b")[0][2], ("c", ("a", "b"), False))
        self.bad(3, "generic 1\nkind b\nkind a\nkind c b a", "generic 1\nkind b\nkind a\nkind c a a")

    def test_all_names_are_different(self):
        self.bad(2, "generic 1\nkind a\nkind a", "generic 1\nkind a\nbare kind a", "generic 1\nkind a\nkind a a")
        self.bad(3, "generic 1\nkind a\nkind b\nkind a b")

    def test_names(self):
        self.assertEqual(generic_in("generic 1\nkind abcdefgh")[0][0][0], "abcdefgh")
        for name in ("abcdefghi", "A", "aB", "a1", "1", "a-b", "a_b", "\xe9", "\u0430", "\xaa", "", "a.", "a,", "\xdf"):
            self.bad(1, f"generic 1\nkind {name}", f"generic 1\nbare kind {name}\nkind b")
            self.bad(2, f"generic 1\nkind a\nkind b {name}", f"generic 1\nkind a\nmethod {name} a")
            self.bad(2, f"generic 1\nkind a\nmethod p {name}")

    def test_words_that_are_missing_or_too_many(self):
        self.bad(
            1, "generic 1\nkind", "generic 1\nbare kind", "generic 1\nbare", "generic 1\nbare a",
            "generic 1\nbare bare kind a",
        )
        self.bad(1, "generic 1\nkind bare kind", "generic 1\nkind kind a\nkind a")
        self.bad(2, "generic 1\nkind a\nmethod", "generic 1\nkind a\nmethod p", "generic 1\nkind a\nmethod p a a")
        self.bad(
            2, "generic 2\nkind a\nmethod p a", "generic 2\nkind a\nmethod p a a a",
            "generic 1\nkind a\nbare method p a",
        )

    def test_methods_of_kinds_that_are_there(self):
        self.bad(2, "generic 1\nkind a\nmethod p b", "generic 1\nkind a\nmethod p p")
        self.bad(4, "generic 2\nkind a\nkind b\nmethod p a b\nmethod q b c")

    def test_labels(self):
        self.bad(2, "generic 1\nkind a\nmethod none a", "generic 1\nkind a\nmethod torn a")
        self.assertEqual(generic_in("generic 1\nkind a\nmethod nones a")[2], (("nones", ("a",)),))
        self.bad(2, "generic 1\nkind none\nmethod none none", "generic 1\nkind torn\nmethod torn torn")
        self.assertEqual(generic_in("generic 1\nkind none\nmethod a none")[2], (("a", ("none",)),))

    def test_labels_ascend(self):
        self.bad(
            4, "generic 1\nkind a\nkind b\nmethod q a\nmethod p b", "generic 1\nkind a\nkind b\nmethod p a\nmethod p b"
        )
        self.bad(4, "generic 1\nkind a\nkind b\nmethod pa a\nmethod p b")

    def test_no_shape_twice(self):
        self.bad(3, "generic 1\nkind a\nmethod p a\nmethod q a")
        self.bad(5, "generic 2\nkind a\nkind b\nmethod p a b\nmethod q b a\nmethod r a b")

    def test_a_line_feed_at_the_end(self):
        self.bad(9, THREE_TEXT + "\n", THREE_TEXT + "\n\n")
        self.bad(2, "generic 1\nkind only\n")

    def test_empty_lines(self):
        self.bad(1, "generic 1\n\nkind a")
        self.bad(2, "generic 1\nkind a\n\nkind b", "generic 1\nkind a\n\nmethod p a")

    def test_other_ends_of_lines_are_none(self):
        for end in ("\r\n", "\r", "\x0b", "\x0c", "\x1c", "\x1d", "\x1e", "\x85", "\u2028", "\u2029"):
            self.bad(0, f"generic 1{end}kind a")
        self.bad(1, "generic 1\nkind a\r\nkind b", "generic 1\nkind a\u2028kind b")

    def test_other_blanks_are_none(self):
        for blank in ("\t", "  ", "\xa0", "\u2003", "\u3000", "\x0b", "\x1f", "_"):
            self.bad(2, f"generic 1\nkind a\nkind b{blank}a", f"generic 1\nkind a\nkind{blank}b a")
            self.bad(2, f"generic 1\nkind a\nmethod p{blank}a", f"generic 1\nkind a\nmethod{blank}p a")

    def test_the_first_of_several_bad_lines(self):
        self.bad(1, "generic 1\nkind A\nkind B", "generic 1\nmethod p a\n\nx")
        self.bad(0, "generic 0\nkind A", "x\ny\nz")
        self.bad(3, "generic 1\nkind a\nmethod p a\nkind b\nmethod q b")

    def test_any_other_string(self):
        for text in ("\x00", "{}", "%s", "\\n", "generic 1\\nkind a", "None", "\ud800", "kind " * 1000, "a" * 10000):
            self.bad(0, text)
        self.bad(0, "generic " + "9" * 5000, "generic " + "1" * 5)

    def test_each_line_spoilt_in_turn(self):
        for generic in (THREE, SIDE, WIDE, THINGS, BARE, SWAPPED, DEEP, WORDS):
            lines = generic_text(generic).split("\n")
            for at, line in enumerate(lines):
                for other in spoilt(line):
                    self.check(lines[:at] + [other] + lines[at + 1 :])
                self.check(lines[:at] + lines[at + 1 :])
                self.check(lines[: at + 1] + lines[at:])
                for place in range(len(lines)):
                    rest = lines[:at] + lines[at + 1 :]
                    self.check(rest[:place] + [line] + rest[place:])

    def check(self, lines):
        """Against the plain rules; a good text tells of just these lines."""
        # A line that was spoilt by a line feed is several.
        lines = "\n".join(lines).split("\n")
        number = plain.bad_line(lines)
        if number is None:
            generic = generic_in("\n".join(lines))
            self.assertIs(is_generic(generic), True)
            self.assertEqual(generic_text(generic), "\n".join(lines))
        else:
            with self.assertRaises(BadLine) as caught:
                generic_in("\n".join(lines))
            self.assertEqual(caught.exception.number, number, lines)

    def test_short_texts_of_all_words(self):
        words = ("generic", "kind", "bare", "method", "a", "p", "1", "")
        some = [" ".join(row) for size in range(4) for row in itertools.product(words, repeat=size)]
        for line in some:
            self.check([line])
            self.check(["generic 1", line])
            self.check(["generic 1", "kind a", line])
            self.check(["generic 1", "bare kind a", "method a a", line])

    def test_512_calls(self):
        self.assertEqual(len(shapes(generic_in(generic_text(CUBE)))), 512)

    def test_sixty_lines_of_two_hundred_letters(self):
        kinds = tuple(("abcdefgh"[:7] + letter, (), False) for letter in "stuvwxyz")
        all_shapes = list(itertools.product([row[0] for row in kinds], repeat=3))
        labels = [one + other for one in "abcdef" for other in "abcdefghi"][:51]
        generic = (kinds, 3, tuple(zip(labels, all_shapes)))
        text = generic_text(generic)
        self.assertEqual(len(text.split("\n")), 60)
        self.assertEqual(generic_in(text), generic)
        self.bad(0, " " * 200 + "\n" + text)
        self.bad(60, text + "\n" + "~" * 200)

    def test_many_methods_somewhat_beyond_the_bounds(self):
        labels = [one + other for one in "abcdefghijk" for other in "abcdefghijk"]
        generic = (CUBE[0], 3, tuple(zip(labels, shapes(CUBE))))
        self.assertEqual(generic_in(generic_text(generic)), generic)


if __name__ == "__main__":
    unittest.main()
