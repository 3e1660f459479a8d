import random
import unittest

from tests.helper import (
    ask, base, corners, cover, drawn_function, fairest, greed, is_base, last, move, stretch, stretch_raw, tell, tight,
)

THREE = tell(0, 4, 3, 6, -2, 1, 0, 2)


class Stretched(unittest.TestCase):
    def check(self, weights, worth):
        self.assertEqual(last(THREE, stretch(*weights)), [0, worth])

    def test_at_the_beginning(self):
        self.assertEqual(last(stretch(5)), [0, 0])

    def test_the_greatest_weight_first(self):
        self.check((3, 2, 1), 12)
        self.check((1, 2, 3), 0)
        self.check((2, 3, 1), 11)

    def test_weights_below_0(self):
        self.check((-1, -2, -3), 4)
        self.check((-3, -2, -1), -8)
        self.check((-5, 0, 4), -18)

    def test_as_great_weights(self):
        self.check((1, 1, 1), 2)
        self.check((-4, 2, 2), -8)
        self.check((0, 0, 0), 0)

    def test_handed_over_as_twice_or_twice_less_one(self):
        self.assertEqual(last(tell(0, 1), stretch_raw([6])), [0, 3])
        self.assertEqual(last(tell(0, 1), stretch_raw([5])), [0, -3])

    def test_greatest_and_least_weights(self):
        self.assertEqual(last(tell(0, 10000), stretch_raw([20000])), [0, 100000000])
        self.assertEqual(last(tell(0, 10000), stretch_raw([19999])), [0, -100000000])

    def test_the_worth_that_greed_tells(self):
        draw = random.Random(11)
        for trial in range(200):
            n = draw.randint(1, 5)
            weights = [draw.randint(-4, 4) for k in range(n)]
            asked = ask(tell(*drawn_function(draw, n)), fairest(), stretch(*weights), greed(*weights))
            self.assertEqual(asked[2], [0, asked[3][0]])

    def test_of_a_set_alone_it_is_the_function(self):
        values = [0, 4, 3, 6, -2, 1, 0, 2]
        for chosen in range(8):
            self.check([chosen >> k & 1 for k in range(3)], values[chosen])

    def test_the_base_stays(self):
        for before in ([THREE], [THREE, greed(1, 3, 2)], [cover(3, (1, 7)), fairest(), move(1, 2)]):
            look = [base(), tight(), corners()]
            kept = ask(*before, *look)[len(before):]
            self.assertEqual(ask(*before, stretch(1, 2, 3), *look)[len(before) + 1:], kept)


class Refused(unittest.TestCase):
    def check(self, row):
        with self.subTest(row=row):
            before = [cover(3, (1, 7)), fairest(), move(1, 2)]
            look = [base(), tight(), corners(), is_base(1, 0, 0)]
            asked = ask(*before, stretch_raw(row), *look)[3:]
            self.assertEqual(asked[0], [-1])
            self.assertEqual(asked[1], [2, 3, 0, 1, 1, 3])
            self.assertEqual(asked[1:], ask(*before, *look)[3:])

    def test_too_few(self):
        for length in (0, 1, 2):
            self.check([0] * length)

    def test_too_many(self):
        for length in (4, 5, 10):
            self.check([0] * length)

    def test_one_above_20000(self):
        self.check([20001, 0, 0])
        self.check([0, 20002, 0])
        self.check([0, 0, 4294967295])

    def test_at_the_beginning(self):
        self.assertEqual(ask(stretch(), stretch(1, 2), stretch_raw([20001])), [[-1]] * 3)


if __name__ == "__main__":
    unittest.main()
