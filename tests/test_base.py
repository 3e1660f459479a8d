import unittest

from tests.helper import ask, base, by_size, cover, fairest, greed, last, move, order, tell


class Base(unittest.TestCase):
    def test_at_the_beginning(self):
        self.assertEqual(last(base()), [0, 1])

    def test_after_tell(self):
        self.assertEqual(last(tell(0, 5, -3, 2), base()), [5, 1, -3, 1])
        self.assertEqual(last(tell(0, -5), base()), [-5, 1])

    def test_after_cover(self):
        self.assertEqual(last(cover(3, (5, 3), (2, 4)), base()), [5, 1, 0, 1, 2, 1])
        self.assertEqual(last(cover(5), base()), [0, 1] * 5)

    def test_after_order(self):
        self.assertEqual(last(tell(0, 5, -3, 1), order(2, 1), base()), [4, 1, -3, 1])

    def test_after_greed(self):
        self.assertEqual(last(tell(0, 5, -3, 1), greed(-2, -1), base()), [4, 1, -3, 1])
        self.assertEqual(last(tell(0, 5, -3, 1), greed(-1, -1), base()), [5, 1, -4, 1])

    def test_after_fairest(self):
        self.assertEqual(last(cover(5, (1, 3), (4, 28)), fairest(), base()), [1, 2, 1, 2, 4, 3, 4, 3, 4, 3])
        self.assertEqual(last(tell(*by_size(0, 0, 0, 0, -6)), fairest(), base()), [-3, 2] * 4)

    def test_after_move(self):
        self.assertEqual(last(tell(0, 5, -3, 1), move(2, 1), base()), [4, 1, -3, 1])
        self.assertEqual(last(cover(3, (1, 7)), fairest(), move(1, 2), base()), [2, 3, 0, 1, 1, 3])

    def test_a_base_that_begins_with_minus_1_is_no_refusal(self):
        self.assertEqual(last(tell(0, -1), base()), [-1, 1])

    def test_asked_twice(self):
        asked = ask(tell(0, 5, -3, 1), base(), base(), fairest(), base(), base())
        self.assertEqual(asked[1], asked[2])
        self.assertEqual(asked[4], asked[5])


if __name__ == "__main__":
    unittest.main()
