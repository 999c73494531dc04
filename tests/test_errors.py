"""Point 8: the errors."""

import unittest

from ringbeats import errors
from ringbeats.errors import BadValue, NotPossible, RingError, TextError, TooLarge
from ringbeats.rings import beaten, widened
from ringbeats.tournaments import triangles

BELOW = [BadValue, TooLarge, NotPossible, TextError]


class Errors(unittest.TestCase):
    def test_ring_error_stands_directly_below_value_error(self):
        self.assertEqual(RingError.__bases__, (ValueError,))

    def test_all_others_stand_directly_below_ring_error(self):
        for below in BELOW:
            self.assertEqual(below.__bases__, (RingError,), below)

    def test_none_is_a_subclass_of_another_one(self):
        for one in BELOW:
            self.assertEqual([other for other in BELOW if issubclass(one, other)], [one])

    def test_there_are_no_further_error_classes(self):
        named = [value for value in vars(errors).values() if isinstance(value, type)]
        self.assertEqual({value.__name__ for value in named}, {value.__name__ for value in [RingError, *BELOW]})

    def test_attributes_are_what_was_given(self):
        self.assertEqual(BadValue("places").name, "places")
        self.assertEqual(TooLarge("ring").what, "ring")
        self.assertEqual(NotPossible("circular").why, "circular")
        problem = TextError(4, "two rows disagree")
        self.assertEqual((problem.column, problem.words), (4, "two rows disagree"))

    def test_attributes_may_be_given_by_name(self):
        self.assertEqual(BadValue(name="ring").name, "ring")
        self.assertEqual(TooLarge(what="players").what, "players")
        self.assertEqual(NotPossible(why="none").why, "none")
        self.assertEqual(TextError(column=1, words="a row is missing").column, 1)

    def test_each_object_has_its_own_attributes(self):
        one, other = BadValue("ring"), BadValue("places")
        self.assertEqual((one.name, other.name), ("ring", "places"))

    def test_ring_error_can_be_raised_alone(self):
        with self.assertRaises(ValueError):
            raise RingError("words")

    def test_messages_tell_what_the_attributes_tell(self):
        self.assertIn("places", str(BadValue("places")))
        self.assertIn("ring", str(TooLarge("ring")))
        self.assertIn("none", str(NotPossible("none")))
        self.assertIn("7", str(TextError(7, "a row is missing")))
        self.assertIn("a row is missing", str(TextError(7, "a row is missing")))

    def test_what_the_functions_raise_is_caught_as_ring_error_and_as_value_error(self):
        for kind in (RingError, ValueError):
            with self.assertRaises(kind):
                beaten(2, (0,))
            with self.assertRaises(kind):
                widened(31, (0,), 0)
            with self.assertRaises(kind):
                triangles(None)


if __name__ == "__main__":
    unittest.main()
