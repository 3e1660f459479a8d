import unittest

from tests.helper import ask, base, cover, greed, last, order, tell


class Base(unittest.TestCase):
    def test_at_the_beginning(self):
        self.assertEqual(last(base()), [0, 1])

    def test_after_tell(self):
        self.assertEqual(last(tell(0, 5, -3, 2), base()), [5, 1, -3, 1])
        self.assertEqual(last(tell(0, -5), base()), [-5, 1])

    def test_after_cover(self):
        self.assertEqual(last(cover(3, (5, 3), (2, 4)), base()), [5, 1, 0, 1, 2, 1])
        self.assertEqual(last(cover(5), base()), [0, 1] * 5)

    def test_after_order(self):
        self.assertEqual(last(tell(0, 5, -3, 1), order(2, 1), base()), [4, 1, -3, 1])

    def test_after_greed(self):
        self.assertEqual(last(tell(0, 5, -3, 1), greed(-2, -1), base()), [4, 1, -3, 1])
        self.assertEqual(last(tell(0, 5, -3, 1), greed(-1, -1), base()), [5, 1, -4, 1])

    def test_a_base_that_begins_with_minus_1_is_no_refusal(self):
        self.assertEqual(last(tell(0, -1), base()), [-1, 1])

    def test_asked_twice(self):
        asked = ask(tell(0, 5, -3, 1), base(), base())
        self.assertEqual(asked[1], asked[2])


if __name__ == "__main__":
    unittest.main()
