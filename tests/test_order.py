import itertools
import unittest

from tests.helper import ask, base, by_size, corners, is_base, last, order, tell

THREE = tell(0, 4, 3, 6, -2, 1, 0, 2)


class Ordered(unittest.TestCase):
    def test_every_order_of_three_things(self):
        expected = {
            (1, 2, 3): [4, 2, -4],
            (1, 3, 2): [4, 1, -3],
            (2, 1, 3): [3, 3, -4],
            (2, 3, 1): [2, 3, -3],
            (3, 1, 2): [3, 1, -2],
            (3, 2, 1): [2, 2, -2],
        }
        for things, shares in expected.items():
            with self.subTest(things=things):
                asked = ask(THREE, order(*things), base())
                self.assertEqual(asked[1], [3] + shares)
                self.assertEqual(asked[2], [number for share in shares for number in (share, 1)])

    def test_every_order_of_five_things(self):
        gains = [9, 5, 2, -1, -6]
        function = tell(*by_size(0, *itertools.accumulate(gains)))
        for things in itertools.permutations(range(1, 6)):
            expected = [gains[things.index(thing)] for thing in range(1, 6)]
            self.assertEqual(last(function, order(*things)), [5] + expected)

    def test_one_thing(self):
        self.assertEqual(last(tell(0, -8), order(1)), [1, -8])

    def test_at_the_beginning(self):
        self.assertEqual(last(order(1)), [1, 0])


class Refused(unittest.TestCase):
    def check(self, *things):
        with self.subTest(things=things):
            look = [base(), corners(), is_base(3, 3, -4), is_base(0, 0, 0)]
            kept = ask(THREE, order(2, 1, 3), *look)[2:]
            asked = ask(THREE, order(2, 1, 3), order(*things), *look)
            self.assertEqual(asked[2], [-1])
            self.assertEqual(asked[3], [3, 1, 3, 1, -4, 1])
            self.assertEqual(asked[3:], kept)

    def test_too_few(self):
        self.check()
        self.check(1)
        self.check(1, 2)

    def test_too_many(self):
        self.check(1, 2, 3, 4)
        self.check(1, 2, 3, 3)
        self.check(1, 2, 3, 1, 2, 3, 1, 2, 3, 1)

    def test_a_thing_twice(self):
        self.check(1, 1, 2)
        self.check(3, 2, 3)

    def test_a_thing_0(self):
        self.check(0, 1, 2)
        self.check(1, 2, 0)

    def test_a_thing_above_n(self):
        self.check(1, 2, 4)
        self.check(4, 3, 2)
        self.check(1, 2, 4294967295)

    def test_at_the_beginning(self):
        self.assertEqual(ask(order(2), order(), order(0), order(1, 2)), [[-1]] * 4)


if __name__ == "__main__":
    unittest.main()
