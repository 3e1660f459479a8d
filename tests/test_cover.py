import unittest

from tests.helper import ask, base, corners, cover, cover_raw, greed, is_base, last, tell


class Covered(unittest.TestCase):
    def test_one_thing(self):
        self.assertEqual(last(cover(1, (3, 1))), [1, 0, 3])
        self.assertEqual(last(cover(1, (3, 1), (4, 1))), [1, 0, 7])

    def test_two_things(self):
        self.assertEqual(last(cover(2, (1, 1), (10, 2), (100, 3))), [2, 0, 101, 110, 111])

    def test_three_things(self):
        points = [(1, 1), (2, 2), (4, 4), (8, 3), (16, 6), (32, 5), (64, 7)]
        expected = [3, 0, 105, 90, 123, 116, 125, 126, 127]
        self.assertEqual(last(cover(3, *points)), expected)

    def test_five_things(self):
        points = [(2, 17), (5, 31), (7, 8)]
        expected = [5]
        for chosen in range(32):
            expected.append(sum(weight for weight, reach in points if reach & chosen))
        self.assertEqual(last(cover(5, *points)), expected)
        self.assertEqual(expected[-1], 14)

    def test_no_point(self):
        for n in range(1, 6):
            self.assertEqual(last(cover(n)), [n] + [0] * 2 ** n)

    def test_twenty_points(self):
        self.assertEqual(last(cover(2, *[(1, 1 + k % 3) for k in range(20)])), [2, 0, 13, 13, 20])
        self.assertEqual(last(cover(1, *[(1000, 1)] * 20)), [1, 0, 20000])

    def test_weights_stand_as_they_are(self):
        self.assertEqual(last(cover(1, (5, 1))), [1, 0, 5])

    def test_weight_of_0_and_of_1000(self):
        self.assertEqual(last(cover(2, (0, 3), (1000, 2))), [2, 0, 0, 1000, 1000])

    def test_a_point_whose_set_is_0(self):
        self.assertEqual(last(cover(2, (9, 0), (4, 1))), [2, 0, 4, 0, 4])
        self.assertEqual(last(cover(1, (9, 0))), [1, 0, 0])

    def test_the_base_is_by_the_things_own_order(self):
        self.assertEqual(last(cover(2, (1, 1), (10, 2), (100, 3)), base()), [101, 1, 10, 1])
        self.assertEqual(last(tell(0, 3, 3, 5), cover(3), base()), [0, 1, 0, 1, 0, 1])


class Refused(unittest.TestCase):
    def check(self, n, row):
        self.assertEqual(last(cover_raw(n, row)), [-1])

    def test_how_many_things(self):
        for n in (0, 6, 7, 32, 4294967295):
            with self.subTest(n=n):
                self.check(n, [])
                self.check(n, [1, 1])

    def test_a_number_left_over(self):
        self.check(1, [1])
        self.check(1, [1, 1, 1])
        self.check(5, [0])
        self.check(5, [1] * 41)

    def test_a_weight_above_1000(self):
        self.check(1, [1001, 1])
        self.check(2, [1, 1, 1001, 2])
        self.check(1, [4294967295, 1])
        self.check(1, [1001, 0])

    def test_a_set_not_of_these_things(self):
        for n in range(1, 6):
            with self.subTest(n=n):
                self.assertEqual(last(cover(n, (1, 2 ** n - 1)))[0], n)
                self.check(n, [1, 2 ** n])
                self.check(n, [1, 1, 0, 2 ** n + 1])
                self.check(n, [1, 4294967295])

    def test_more_than_twenty_points(self):
        self.check(1, [1, 1] * 21)
        self.check(5, [0, 0] * 21)
        self.check(1, [1, 1] * 25)

    def test_all_is_as_it_was(self):
        before = [cover(2, (1, 1), (10, 2), (100, 3)), greed(0, 1)]
        look = [base(), corners(), is_base(101, 10), is_base(1, 111), is_base(0, 0)]
        kept = ask(*before, *look)[2:]
        self.assertEqual(kept, [[1, 1, 110, 1], [2, 1, 110, 101, 10], [1], [0, 1, 2], [0, 0]])
        refused = [(0, []), (6, []), (3, [1]), (3, [1001, 1]), (3, [1, 8]), (3, [1, 1] * 21)]
        for n, row in refused:
            with self.subTest(n=n, row=row):
                asked = ask(*before, cover_raw(n, row), *look)
                self.assertEqual(asked[2], [-1])
                self.assertEqual(asked[3:], kept)


if __name__ == "__main__":
    unittest.main()
