import random
import unittest

from tests.helper import ask, base, by_size, corners, is_base, last, order, tell, tell_raw


def is_of_this_kind(values):
    """The same kind in other words: two sets have no less than both and what they share."""
    for one in range(len(values)):
        for other in range(len(values)):
            if values[one | other] + values[one & other] > values[one] + values[other]:
                return False
    return True


class Told(unittest.TestCase):
    def check(self, n, values):
        self.assertEqual(last(tell(*values)), [n] + values)

    def test_two_values(self):
        self.check(1, [0, 7])
        self.check(1, [0, -7])
        self.check(1, [0, 0])

    def test_four_values(self):
        self.check(2, [0, 3, -3, -1])

    def test_eight_values(self):
        self.check(3, [0, 4, 3, 6, -2, 1, 0, 2])

    def test_sixteen_values(self):
        self.check(4, by_size(0, 2, 1, -3, -9))

    def test_thirty_two_values(self):
        self.check(5, by_size(0, 9, 16, 21, 24, 25))
        self.check(5, by_size(0, -1, -3, -6, -10, -15))

    def test_handed_over_as_twice_or_twice_less_one(self):
        self.assertEqual(last(tell_raw([0, 6])), [1, 0, 3])
        self.assertEqual(last(tell_raw([0, 5])), [1, 0, -3])
        self.assertEqual(last(tell_raw([0, 1])), [1, 0, -1])
        self.assertEqual(last(tell_raw([0, 2])), [1, 0, 1])

    def test_greatest_and_least_values(self):
        self.assertEqual(last(tell_raw([0, 20000])), [1, 0, 10000])
        self.assertEqual(last(tell_raw([0, 19999])), [1, 0, -10000])

    def test_a_thing_may_bring_just_as_much_as_before(self):
        self.check(2, [0, 2, 3, 5])
        self.check(3, [0, 1, 2, 3, 4, 5, 6, 7])

    def test_a_function_may_fall(self):
        self.check(2, [0, 5, 5, 0])

    def test_the_base_is_by_the_things_own_order(self):
        self.assertEqual(last(tell(0, 4, 3, 6, -2, 1, 0, 2), base()), [4, 1, 2, 1, -4, 1])

    def test_told_again_with_fewer_and_with_more_things(self):
        asked = ask(tell(*by_size(0, 3, 5)), tell(0, 8), base(), tell(*by_size(0, 4, 7, 9)), base())
        self.assertEqual(asked[2], [8, 1])
        self.assertEqual(asked[4], [4, 1, 3, 1, 2, 1])

    def test_told_again_after_another_base(self):
        asked = ask(tell(0, 3, 3, 5), order(2, 1), tell(0, 3, 3, 5), base())
        self.assertEqual(asked[1], [2, 2, 3])
        self.assertEqual(asked[3], [3, 1, 2, 1])


class Refused(unittest.TestCase):
    def check(self, refusal, row):
        self.assertEqual(last(tell_raw(row)), [refusal])

    def test_how_many_values(self):
        for length in range(41):
            with self.subTest(length=length):
                if length in (2, 4, 8, 16, 32):
                    self.assertEqual(len(last(tell_raw([0] * length))), length + 1)
                else:
                    self.check(-1, [0] * length)

    def test_a_value_above_20000(self):
        self.check(-1, [0, 20001])
        self.check(-1, [0, 20002])
        self.check(-1, [0, 4294967295])
        self.check(-1, [0, 20001, 0, 0])
        self.check(-1, [20001, 0])

    def test_not_0_for_no_thing(self):
        self.check(-6, [2, 2])
        self.check(-6, [1, 0])
        self.check(-6, [20000, 0])
        self.check(-6, [2, 2, 2, 2])

    def test_not_of_this_kind(self):
        self.assertEqual(last(tell(0, 2, 3, 6)), [-6])
        self.assertEqual(last(tell(0, -1, -1, -1)), [-6])

    def test_one_value_that_is_not_0(self):
        # With 0 for all other sets, a single thing may not have less nor several more.
        for n in range(2, 6):
            for chosen in range(1, 2 ** n):
                values = [0] * 2 ** n
                values[chosen] = 1 if bin(chosen).count("1") > 1 else -1
                with self.subTest(n=n, chosen=chosen):
                    self.assertEqual(last(tell(*values)), [-6])

    def test_each_pair_of_things_counts(self):
        for n in range(2, 6):
            for one in range(n):
                for other in range(one + 1, n):
                    both = 1 << one | 1 << other
                    values = [1 if chosen & both == both else 0 for chosen in range(2 ** n)]
                    with self.subTest(n=n, both=both):
                        self.assertEqual(last(tell(*values)), [-6])

    def test_one_step_too_far_at_one_set(self):
        # Each further thing brings just 2 less: a step of 2 may be let, one of 3 breaks it.
        for n in range(2, 6):
            straight = by_size(*[size * (20 - size) for size in range(n + 1)])
            for chosen in range(1, 2 ** n):
                for step in (-2, 2, -3, 3):
                    values = list(straight)
                    values[chosen] += step
                    expected = [n] + values if is_of_this_kind(values) else [-6]
                    with self.subTest(n=n, chosen=chosen, step=step):
                        self.assertEqual(last(tell(*values)), expected)

    def test_drawn_functions(self):
        draw = random.Random(7)
        told = 0
        for trial in range(2000):
            n = draw.choice((2, 3, 3, 4, 5))
            values = by_size(*[size * (n + 2 - size) for size in range(n + 1)])
            values = [0] + [value + draw.randint(-1, 1) for value in values[1:]]
            expected = [n] + values if is_of_this_kind(values) else [-6]
            told += expected != [-6]
            self.assertEqual(last(tell(*values)), expected)
        self.assertTrue(100 < told < 1900)

    def test_refused_for_both_answers_the_first(self):
        self.check(-1, [2, 20001])
        self.check(-1, [2, 0, 0, 20001])
        self.check(-1, [2])
        self.check(-1, [2, 2, 2])
        self.check(-1, [0, 0, 0, 20001])

    def test_all_is_as_it_was(self):
        before = [tell(0, 3, 3, 5), order(2, 1)]
        look = [base(), corners(), is_base(3, 2), is_base(2, 2), is_base(4, 0), is_base(0)]
        kept = ask(*before, *look)[2:]
        self.assertEqual(kept, [[2, 1, 3, 1], [2, 2, 3, 3, 2], [1], [0, 0], [0, 1, 1], [-1]])
        for row in ([], [0], [0, 0, 0], [0] * 40, [0, 20001], [2, 2], [0, 0, 0, 2], [0] * 7 + [2]):
            with self.subTest(row=row):
                asked = ask(*before, tell_raw(row), *look)
                self.assertIn(asked[2], ([-1], [-6]))
                self.assertEqual(asked[3:], kept)


if __name__ == "__main__":
    unittest.main()
