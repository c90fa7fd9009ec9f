"""Promise [13], and what [2] says of errors."""

import unittest

from whichmethod import errors
from whichmethod.errors import BadLine, Doubled, NoMethod, NotAsked, NotFitting, NotNeeded

UNDER = {
    NoMethod: LookupError,
    NotNeeded: LookupError,
    NotAsked: LookupError,
    Doubled: ValueError,
    NotFitting: ValueError,
    BadLine: ValueError,
}


class Classes(unittest.TestCase):
    def test_each_is_a_direct_subclass_of_its_builtin_class_alone(self):
        for error, base in UNDER.items():
            with self.subTest(error=error.__name__):
                self.assertEqual(error.__bases__, (base,))

    def test_each_is_defined_in_errors(self):
        for error in UNDER:
            with self.subTest(error=error.__name__):
                self.assertEqual(error.__module__, errors.__name__)

    def test_none_is_caught_as_another(self):
        for error in UNDER:
            self.assertEqual([other for other in UNDER if issubclass(error, other)], [error])


class Values(unittest.TestCase):
    def test_label(self):
        self.assertEqual(NoMethod("p").label, "p")
        self.assertEqual(Doubled("q").label, "q")
        self.assertEqual(NoMethod(label="p").label, "p")
        self.assertEqual(Doubled(label="q").label, "q")

    def test_shape(self):
        self.assertEqual(NotNeeded(("a", "b")).shape, ("a", "b"))
        self.assertEqual(NotNeeded(shape=("a",)).shape, ("a",))

    def test_place(self):
        self.assertEqual(NotAsked(2).place, 2)
        self.assertEqual(NotAsked(place=0).place, 0)

    def test_call_and_label(self):
        for error in (NotFitting(("a",), "p"), NotFitting(label="p", call=("a",))):
            self.assertEqual((error.call, error.label), (("a",), "p"))

    def test_number(self):
        self.assertEqual(BadLine(7).number, 7)
        self.assertEqual(BadLine(number=0).number, 0)

    def test_lists_are_kept_as_tuples_at_every_depth(self):
        self.assertEqual(NotNeeded(["a", "b"]).shape, ("a", "b"))
        self.assertEqual(NotFitting(["a"], "p").call, ("a",))
        self.assertEqual(NotNeeded(["a", ("b", ["c", ["d"]])]).shape, ("a", ("b", ("c", ("d",)))))

    def test_a_later_change_of_the_list_does_not_reach_the_error(self):
        call = ["a"]
        error = NotFitting(call, "p")
        call.append("b")
        self.assertEqual(error.call, ("a",))

    def test_the_attributes_belong_to_the_object(self):
        one, other = NoMethod("p"), NoMethod("q")
        self.assertEqual((one.label, other.label), ("p", "q"))

    def test_they_can_be_raised_and_caught_as_their_builtin_class(self):
        with self.assertRaises(LookupError) as caught:
            raise NotAsked(1)
        self.assertEqual(caught.exception.place, 1)
        with self.assertRaises(ValueError) as caught:
            raise BadLine(3)
        self.assertEqual(caught.exception.number, 3)


if __name__ == "__main__":
    unittest.main()
