import random
import unittest

from tests.helper import (
    ask, base, by_size, corners, cover, drawn_function, fairest, fairest_by_squares, is_base, is_base_of, last, move,
    order, room, stretch, tell, tight, told, untold,
)


class Fairest(unittest.TestCase):
    def check(self, call, answer):
        self.assertEqual(ask(call, fairest(), base())[1:], [answer, answer])

    def test_at_the_beginning(self):
        self.assertEqual(ask(fairest(), base()), [[0, 1], [0, 1]])

    def test_one_thing(self):
        self.check(tell(0, 7), [7, 1])
        self.check(tell(0, -7), [-7, 1])

    def test_two_things(self):
        self.check(tell(0, 5, 5, 5), [5, 2, 5, 2])
        self.check(tell(0, 1, 5, 5), [1, 1, 4, 1])
        self.check(tell(0, 5, 1, 5), [4, 1, 1, 1])
        self.check(tell(0, 1, 0, -1), [-1, 2, -1, 2])

    def test_one_part(self):
        self.check(tell(*by_size(0, 1, 1, 1)), [1, 3] * 3)
        self.check(cover(4, (3, 15)), [3, 4] * 4)
        self.check(cover(5, (7, 31)), [7, 5] * 5)

    def test_several_parts(self):
        self.check(cover(5, (1, 3), (4, 28)), [1, 2, 1, 2, 4, 3, 4, 3, 4, 3])
        self.check(tell(0, 1, -2, -1, 4, 5, 2, 3), [1, 1, -2, 1, 4, 1])
        # What is left to the others hangs on those that have theirs already.
        self.check(tell(0, 1, 4, 4, 4, 4, 6, 6), [1, 1, 5, 2, 5, 2])

    def test_as_many_parts_as_things(self):
        own = (5, -3, 0, 9, 2)
        values = [sum(own[k] for k in range(5) if chosen >> k & 1) for chosen in range(32)]
        self.check(tell(*values), told(own))

    def test_a_lower_part_among_higher_things(self):
        self.check(cover(4, (1, 10), (9, 5)), [9, 2, 1, 2, 9, 2, 1, 2])

    def test_several_sets_have_the_least_at_once(self):
        self.check(tell(0, 4, 3, 6, -2, 1, 0, 2), [2, 1, 2, 1, -2, 1])
        self.check(cover(4, (1, 3), (1, 12)), [1, 2] * 4)
        self.check(cover(5), [0, 1] * 5)
        self.check(cover(5, (2, 3), (1, 4), (5, 24)), [1, 1, 1, 1, 1, 1, 5, 2, 5, 2])

    def test_below_0(self):
        self.check(tell(*by_size(0, 0, -1, -4)), [-4, 3] * 3)
        self.check(tell(*by_size(0, 0, 0, 0, 0, -1)), [-1, 5] * 5)
        self.check(tell(*by_size(0, -1, -3, -6, -10, -15)), [-3, 1] * 5)
        self.check(tell(0, -5, 3, -3), [-5, 1, 2, 1])

    def test_in_lowest_terms(self):
        self.check(cover(4, (6, 15)), [3, 2] * 4)
        self.check(cover(4, (8, 15)), [2, 1] * 4)
        self.check(tell(*by_size(0, 0, 0, 0, -6)), [-3, 2] * 4)
        self.check(tell(*by_size(0, 3, 3, 0)), [0, 1] * 3)

    def test_great_numbers(self):
        self.check(tell(*by_size(0, 10000, 10000, 10000)), [10000, 3] * 3)
        self.check(tell(*by_size(0, 0, 0, 0, 0, -9999)), [-9999, 5] * 5)

    def test_a_first_number_of_minus_1_is_no_refusal(self):
        self.check(tell(0, -1), [-1, 1])
        self.check(tell(0, 1, 0, -1), [-1, 2, -1, 2])

    def test_by_the_squares(self):
        draw = random.Random(9)
        for n, trials in ((1, 5), (2, 60), (3, 60), (4, 30), (5, 8)):
            for trial in range(trials):
                values = drawn_function(draw, n)
                with self.subTest(values=values):
                    self.check(tell(*values), told(fairest_by_squares(values)))

    def test_it_is_a_base_and_nothing_can_go_to_one_that_has_less(self):
        draw = random.Random(10)
        for trial in range(200):
            n = draw.randint(2, 5)
            values = drawn_function(draw, n)
            shares = untold(last(tell(*values), fairest()))
            self.assertTrue(is_base_of(values, shares))
            i, j = sorted(draw.sample(range(1, n + 1), 2), key=lambda thing: shares[thing - 1])
            if shares[i - 1] < shares[j - 1]:
                self.assertEqual(last(tell(*values), fairest(), room(i, j)), [0, 1])

    def test_whatever_the_base_was(self):
        five = tell(*by_size(0, 9, 14, 16, 15, 9))
        for before in ([], [order(5, 4, 3, 2, 1)], [fairest()], [fairest(), move(1, 2), move(3, 1)]):
            self.assertEqual(last(five, *before, fairest()), [9, 5] * 5)

    def test_the_function_stays(self):
        three = tell(0, 1, 4, 4, 4, 4, 6, 6)
        look = [corners(), is_base(1, 3, 2), is_base(2, 2, 2), stretch(1, 2, 3)]
        self.assertEqual(ask(three, fairest(), *look)[2:], ask(three, *look)[1:])

    def test_is_base_corners_stretch_and_base_leave_the_fractions(self):
        look = [base(), tight(), room(2, 3)]
        before = [tell(0, 1, 4, 4, 4, 4, 6, 6), fairest()]
        between = [is_base(1, 3, 2), corners(), stretch(3, 1, 2), base()]
        self.assertEqual(ask(*before, *between, *look)[6:], [[1, 1, 5, 2, 5, 2], [3, 0, 1, 7], [1, 2]])


if __name__ == "__main__":
    unittest.main()
