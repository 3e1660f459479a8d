import itertools
import unittest

from tests.helper import ask, base, by_size, corners, cover, last, order, tell


class Corners(unittest.TestCase):
    def test_at_the_beginning(self):
        self.assertEqual(last(corners()), [1, 0])

    def test_one_thing(self):
        self.assertEqual(last(tell(0, 6), corners()), [1, 6])
        self.assertEqual(last(tell(0, -6), corners()), [1, -6])

    def test_as_many_as_there_are_orders(self):
        expected = [6, -4, -1, 2, -4, 2, -1, -1, -4, 2, -1, 2, -4, 2, -4, -1, 2, -1, -4]
        self.assertEqual(last(tell(*by_size(0, 2, 1, -3)), corners()), expected)

    def test_as_many_as_there_are_orders_of_five_things(self):
        gains = [9, 5, 2, -1, -6]
        expected = [120]
        for corner in itertools.permutations(sorted(gains)):
            expected.extend(corner)
        function = tell(*by_size(0, *itertools.accumulate(gains)))
        self.assertEqual(last(function, corners()), expected)

    def test_fewer_than_orders(self):
        self.assertEqual(last(tell(*by_size(0, 1, 1, 1)), corners()), [3, 0, 0, 1, 0, 1, 0, 1, 0, 0])
        self.assertEqual(last(cover(3, (5, 3), (2, 4)), corners()), [2, 0, 5, 2, 5, 0, 2])

    def test_a_single_corner(self):
        self.assertEqual(last(tell(0, 1, -2, -1, 4, 5, 2, 3), corners()), [1, 1, -2, 4])
        self.assertEqual(last(cover(5), corners()), [1, 0, 0, 0, 0, 0])

    def test_the_lower_number_for_the_first_that_differs_comes_first(self):
        # Numbers below 0, and of more than one digit, beside one another.
        self.assertEqual(last(tell(0, 10, 10, 9), corners()), [2, -1, 10, 10, -1])
        self.assertEqual(last(tell(0, -2, 5, -5), corners()), [2, -10, 5, -2, -3])
        function = tell(0, 4, 3, 6, -2, 1, 0, 2)
        expected = [6, 2, 2, -2, 2, 3, -3, 3, 1, -2, 3, 3, -4, 4, 1, -3, 4, 2, -4]
        self.assertEqual(last(function, corners()), expected)

    def test_the_base_stays(self):
        asked = ask(tell(0, 10, 10, 9), order(2, 1), corners(), base(), corners())
        self.assertEqual(asked[3], [-1, 1, 10, 1])
        self.assertEqual(asked[2], asked[4])


if __name__ == "__main__":
    unittest.main()
