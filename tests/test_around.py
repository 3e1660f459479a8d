import random
import unittest

from tests.helper import (
    around, ask, base, by_size, corners, cover, drawn_function, fairest, greed, last, move, order, room, tell, tight,
)

THREE = tell(0, 4, 3, 6, -2, 1, 0, 2)
THIRDS = tell(*by_size(0, 1, 1, 1))


class Around(unittest.TestCase):
    def check(self, *calls, sets):
        for i, chosen in enumerate(sets, start=1):
            self.assertEqual(last(*calls, around(i)), [chosen])

    def test_at_the_beginning(self):
        self.check(sets=[1])

    def test_after_tell(self):
        self.check(THREE, sets=[1, 3, 7])
        self.check(tell(0, 5, -3, 2), sets=[1, 2])

    def test_after_cover(self):
        self.check(cover(3, (5, 3), (2, 4)), sets=[1, 3, 4])
        self.check(cover(5), sets=[1, 2, 4, 8, 16])

    def test_after_order(self):
        self.check(THREE, order(3, 2, 1), sets=[7, 6, 4])
        self.check(tell(*by_size(0, 9, 14, 16, 15, 9)), order(5, 3, 1, 2, 4), sets=[21, 23, 20, 31, 16])

    def test_after_greed(self):
        self.check(THREE, greed(0, 0, 7), sets=[5, 7, 4])

    def test_after_fairest(self):
        self.check(THREE, fairest(), sets=[7, 6, 4])
        self.check(THIRDS, fairest(), sets=[7, 7, 7])
        self.check(cover(4, (1, 3), (1, 12)), fairest(), sets=[3, 3, 12, 12])

    def test_after_move(self):
        self.check(THIRDS, fairest(), move(1, 2), sets=[5, 7, 5])
        self.check(THIRDS, fairest(), move(1, 2), move(1, 3), sets=[1, 3, 5])

    def test_what_the_tight_sets_have_in_common(self):
        draw = random.Random(5)
        for trial in range(200):
            n = draw.randint(1, 5)
            calls = [tell(*drawn_function(draw, n)), draw.choice((fairest(), order(*range(n, 0, -1)), base()))]
            if n > 1:
                calls += [move(*draw.sample(range(1, n + 1), 2)) for k in range(draw.randint(0, 2))]
            i = draw.randint(1, n)
            asked = ask(*calls, tight(), around(i))
            holding = [chosen for chosen in asked[-2][1:] if chosen >> (i - 1) & 1]
            common = [k for k in range(n) if all(chosen >> k & 1 for chosen in holding)]
            self.assertEqual(asked[-1], [sum(2 ** k for k in common)])

    def test_just_those_that_there_is_room_from(self):
        draw = random.Random(6)
        for trial in range(60):
            n = draw.randint(2, 5)
            i, j = draw.sample(range(1, n + 1), 2)
            asked = ask(tell(*drawn_function(draw, n)), fairest(), around(i), room(i, j))
            self.assertEqual(asked[2][0] >> (j - 1) & 1 == 1, asked[3] != [0, 1])

    def test_it_changes_nothing(self):
        look = [base(), tight(), corners()]
        self.assertEqual(ask(THREE, fairest(), around(2), *look)[3:], ask(THREE, fairest(), *look)[2:])


class Refused(unittest.TestCase):
    def test_no_such_thing(self):
        look = [base(), tight(), corners(), around(1)]
        for n in range(1, 6):
            before = [tell(*by_size(*[k * (6 - k) for k in range(n + 1)])), fairest()]
            kept = ask(*before, *look)[2:]
            for i in (0, n + 1, n + 2, 31, 4294967295):
                with self.subTest(n=n, i=i):
                    asked = ask(*before, around(i), *look)
                    self.assertEqual(asked[2], [-1])
                    self.assertEqual(asked[3:], kept)

    def test_at_the_beginning(self):
        self.assertEqual(ask(around(0), around(2), around(4294967295)), [[-1]] * 3)


if __name__ == "__main__":
    unittest.main()
