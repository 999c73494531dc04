"""Points 3 and 4: an integer is never True or False, and what is ascending."""

import unittest

from ringbeats.kinds import are_whole, is_ascending, is_order, is_whole


class Kinds(unittest.TestCase):
    def test_integers_between_two_bounds(self):
        self.assertEqual([value for value in range(-9, 9) if is_whole(value, -2, 3) is True], [-2, -1, 0, 1, 2, 3])

    def test_what_is_no_integer(self):
        for value in (True, False, None, "1", (1,), [1], ()):
            self.assertIs(is_whole(value, 0, 1), False)

    def test_ascending_tuples(self):
        for value in ((), (0,), (3,), (0, 1, 2, 3), (1, 3)):
            self.assertIs(is_ascending(value, 4), True)
        for value in ((4,), (-1,), (-1, 0), (0, 0), (1, 0), (0, 2, 2), (0, True), (False,), (None,)):
            self.assertIs(is_ascending(value, 4), False)
        for value in ([], [0], None, True, 0, ""):
            self.assertIs(is_ascending(value, 4), False)

    def test_tuples_of_so_many_integers(self):
        for value in ((-1, 2), (0, 0), (2, -1)):
            self.assertIs(are_whole(value, 2, -1, 2), True)
        for value in ((), (0,), (0, 0, 0), (-2, 0), (0, 3), (True, 0), (0, False), (0, None), [0, 0], None, "00", 0):
            self.assertIs(are_whole(value, 2, -1, 2), False)

    def test_tuples_with_each_integer_once(self):
        for value in ((0, 1, 2), (2, 0, 1)):
            self.assertIs(is_order(value, 3), True)
        for value in ((), (0, 1), (0, 1, 2, 3), (0, 0, 1), (1, 2, 3), (0, True, 2), (False, 1, 2), [0, 1, 2], None):
            self.assertIs(is_order(value, 3), False)


if __name__ == "__main__":
    unittest.main()
