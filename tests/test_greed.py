import itertools
import random
import unittest

from tests.helper import ask, base, by_size, corners, cover, greed, greed_raw, is_base, last, tell

THREE = tell(0, 4, 3, 6, -2, 1, 0, 2)


class Greedy(unittest.TestCase):
    def check(self, weights, worth, shares):
        asked = ask(THREE, greed(*weights), base())
        self.assertEqual(asked[1], [worth] + shares)
        self.assertEqual(asked[2], [number for share in shares for number in (share, 1)])

    def test_the_greatest_weight_first(self):
        self.check((3, 2, 1), 12, [4, 2, -4])
        self.check((1, 2, 3), 0, [2, 2, -2])
        self.check((2, 3, 1), 11, [3, 3, -4])
        self.check((2, 1, 3), 1, [3, 1, -2])

    def test_weights_below_0(self):
        self.check((-1, -2, -3), 4, [4, 2, -4])
        self.check((-3, -2, -1), -8, [2, 2, -2])
        self.check((-5, 0, 4), -18, [2, 2, -2])

    def test_of_as_great_ones_the_lower_thing_first(self):
        self.check((1, 1, 1), 2, [4, 2, -4])
        self.check((0, 0, 7), -14, [3, 1, -2])
        self.check((-4, 2, 2), -8, [2, 3, -3])
        self.check((2, -4, 2), -2, [4, 1, -3])

    def test_all_weights_0(self):
        self.check((0, 0, 0), 0, [4, 2, -4])

    def test_greatest_and_least_weights(self):
        self.assertEqual(last(tell_ten(), greed_raw([20000])), [100000000, 10000])
        self.assertEqual(last(tell_ten(), greed_raw([19999])), [-100000000, 10000])

    def test_handed_over_as_twice_or_twice_less_one(self):
        self.assertEqual(last(tell(0, 1), greed_raw([6])), [3, 1])
        self.assertEqual(last(tell(0, 1), greed_raw([5])), [-3, 1])

    def test_a_worth_of_minus_1_is_no_refusal(self):
        self.assertEqual(last(tell(0, 1), greed(-1)), [-1, 1])

    def test_at_the_beginning(self):
        self.assertEqual(last(greed(5)), [0, 0])

    def test_it_is_the_best_of_the_corners(self):
        draw = random.Random(20)
        for n in range(1, 6):
            for trial in range(20):
                points = [(draw.randint(0, 50), draw.randrange(2 ** n)) for k in range(12)]
                weights = [draw.randint(-9, 9) for k in range(n)]
                asked = ask(cover(n, *points), greed(*weights), corners())
                found = asked[2][1:]
                worths = []
                for place in range(0, len(found), n):
                    worths.append(sum(w * x for w, x in zip(weights, found[place:place + n])))
                self.assertEqual(asked[1][0], max(worths))
                self.assertEqual(asked[1][0], sum(w * x for w, x in zip(weights, asked[1][1:])))

    def test_every_order_of_weights_of_four_things(self):
        function = tell(*by_size(0, 7, 10, 8, 2))
        gains = [7, 3, -2, -6]
        for weights in itertools.product((-2, 0, 3), repeat=4):
            things = sorted(range(4), key=lambda k: -weights[k])
            shares = [gains[things.index(k)] for k in range(4)]
            worth = sum(w * x for w, x in zip(weights, shares))
            self.assertEqual(last(function, greed(*weights)), [worth] + shares)


def tell_ten():
    return tell(0, 10000)


class Refused(unittest.TestCase):
    def check(self, row):
        with self.subTest(row=row):
            look = [base(), corners(), is_base(2, 2, -2), is_base(9, 9, 9)]
            kept = ask(THREE, greed(1, 2, 3), *look)[2:]
            asked = ask(THREE, greed(1, 2, 3), greed_raw(row), *look)
            self.assertEqual(asked[2], [-1])
            self.assertEqual(asked[3], [2, 1, 2, 1, -2, 1])
            self.assertEqual(asked[3:], kept)

    def test_not_just_n_weights(self):
        for length in (0, 1, 2, 4, 5, 10):
            self.check([0] * length)

    def test_one_above_20000(self):
        self.check([20001, 0, 0])
        self.check([0, 20001, 0])
        self.check([0, 0, 20002])
        self.check([4294967295, 0, 0])

    def test_at_the_beginning(self):
        self.assertEqual(ask(greed(), greed(1, 2)), [[-1], [-1]])


if __name__ == "__main__":
    unittest.main()
