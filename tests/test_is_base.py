import itertools
import unittest

from tests.helper import ask, base, by_size, corners, is_base, is_base_raw, last, order, tell

THREE = tell(0, 4, 3, 6, -2, 1, 0, 2)


class Asked(unittest.TestCase):
    def check(self, numbers, expected):
        self.assertEqual(last(THREE, is_base(*numbers)), expected)

    def test_a_corner(self):
        self.check((4, 2, -4), [1])
        self.check((2, 2, -2), [1])

    def test_a_base_that_is_no_corner(self):
        self.check((3, 2, -3), [1])

    def test_every_corner_is_a_base(self):
        function = tell(*by_size(0, 9, 14, 16, 15, 9))
        for numbers in itertools.permutations((9, 5, 2, -1, -6)):
            self.assertEqual(last(function, is_base(*numbers)), [1])

    def test_the_lowest_set_that_has_too_much(self):
        self.check((5, 0, -3), [0, 1, 1])
        self.check((0, 4, -2), [0, 1, 2])
        self.check((4, 3, -5), [0, 1, 3])
        self.check((2, 1, -1), [0, 1, 4])
        self.check((4, 0, -2), [0, 1, 5])
        self.check((1, 3, -2), [0, 1, 6])
        self.check((9, 9, 9), [0, 1, 1])

    def test_all_things_alone_have_too_much(self):
        # Each set below has less than it may; all things may have 3 alone.
        function = tell(*by_size(0, 3, 5, 3))
        self.assertEqual(last(function, is_base(2, 1, 1)), [0, 1, 7])
        self.assertEqual(last(function, is_base(1, 1, 1)), [1])

    def test_no_set_has_too_much_but_all_things_too_little(self):
        self.check((0, 0, -2), [0, 0])
        self.check((3, 2, -4), [0, 0])
        self.check((-9, -9, -9), [0, 0])

    def test_all_numbers_near_the_bases(self):
        function = [0, 4, 3, 6, -2, 1, 0, 2]
        for numbers in itertools.product(range(-6, 6), repeat=3):
            have = [sum(numbers[k] for k in range(3) if chosen >> k & 1) for chosen in range(8)]
            over = [chosen for chosen in range(8) if have[chosen] > function[chosen]]
            if over:
                self.check(numbers, [0, 1, over[0]])
            else:
                self.check(numbers, [1] if have[7] == function[7] else [0, 0])

    def test_one_thing(self):
        asked = ask(tell(0, -3), is_base(-3), is_base(-2), is_base(-4))
        self.assertEqual(asked[1:], [[1], [0, 1, 1], [0, 0]])

    def test_at_the_beginning(self):
        self.assertEqual(ask(is_base(0), is_base(1), is_base(-1)), [[1], [0, 1, 1], [0, 0]])

    def test_handed_over_as_twice_or_twice_less_one(self):
        self.assertEqual(last(tell(0, 3), is_base_raw([6])), [1])
        self.assertEqual(last(tell(0, -3), is_base_raw([5])), [1])
        self.assertEqual(last(tell(0, 10000), is_base_raw([20000])), [1])
        self.assertEqual(last(tell(0, -10000), is_base_raw([19999])), [1])

    def test_the_base_stays(self):
        asked = ask(THREE, order(3, 2, 1), is_base(4, 2, -4), is_base(0, 0, 0), base())
        self.assertEqual(asked[4], [2, 1, 2, 1, -2, 1])


class Refused(unittest.TestCase):
    def check(self, row):
        with self.subTest(row=row):
            asked = ask(THREE, order(3, 2, 1), is_base_raw(row), base(), corners())
            self.assertEqual(asked[2], [-1])
            self.assertEqual(asked[3], [2, 1, 2, 1, -2, 1])
            self.assertEqual(asked[4], last(THREE, corners()))

    def test_not_just_n_numbers(self):
        for length in (0, 1, 2, 4, 10):
            self.check([0] * length)

    def test_one_above_20000(self):
        self.check([20001, 0, 0])
        self.check([0, 20002, 0])
        self.check([0, 0, 4294967295])


if __name__ == "__main__":
    unittest.main()
