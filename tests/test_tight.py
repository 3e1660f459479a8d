import random
import unittest

from tests.helper import (
    ask, base, by_size, corners, cover, drawn_function, fairest, greed, is_base, last, members, move, order, room,
    stretch, tell, tight, untold,
)

THREE = tell(0, 4, 3, 6, -2, 1, 0, 2)


class Tight(unittest.TestCase):
    def check(self, *calls, sets):
        self.assertEqual(last(*calls, tight()), [len(sets)] + sets)

    def test_at_the_beginning(self):
        self.check(sets=[0, 1])

    def test_after_tell(self):
        self.check(THREE, sets=[0, 1, 3, 7])
        self.check(tell(0, -4), sets=[0, 1])
        self.check(tell(0, 5, -3, 2), sets=[0, 1, 2, 3])

    def test_after_cover(self):
        self.check(cover(2, (1, 1), (10, 2), (100, 3)), sets=[0, 1, 3])
        self.check(cover(3, (5, 3), (2, 4)), sets=[0, 1, 3, 4, 5, 7])
        self.check(cover(5), sets=list(range(32)))

    def test_after_order(self):
        self.check(THREE, order(3, 2, 1), sets=[0, 4, 6, 7])
        self.check(THREE, order(2, 3, 1), sets=[0, 2, 6, 7])
        five = tell(*by_size(0, 9, 14, 16, 15, 9))
        self.check(five, order(5, 3, 1, 2, 4), sets=[0, 16, 20, 21, 23, 31])

    def test_after_greed(self):
        self.check(THREE, greed(0, 0, 7), sets=[0, 4, 5, 7])
        self.check(THREE, greed(-4, 2, 2), sets=[0, 2, 6, 7])

    def test_after_fairest(self):
        self.check(THREE, fairest(), sets=[0, 4, 6, 7])
        self.check(tell(*by_size(0, 1, 1, 1)), fairest(), sets=[0, 7])
        self.check(cover(4, (1, 3), (1, 12)), fairest(), sets=[0, 3, 12, 15])
        self.check(tell(0, 1, 0, -1), fairest(), sets=[0, 3])

    def test_after_move(self):
        thirds = tell(*by_size(0, 1, 1, 1))
        self.check(thirds, fairest(), move(1, 2), sets=[0, 5, 7])
        self.check(thirds, fairest(), move(1, 2), move(1, 3), sets=[0, 1, 3, 5, 7])
        self.check(THREE, move(3, 2), sets=[0, 1, 5, 7])

    def test_no_thing_and_all_things_are_tight(self):
        draw = random.Random(3)
        for n in range(1, 6):
            values = drawn_function(draw, n)
            for call in (order(*range(1, n + 1)), greed(*range(n)), fairest()):
                found = last(tell(*values), call, tight())
                self.assertEqual(found[1], 0)
                self.assertEqual(found[-1], 2 ** n - 1)

    def test_drawn_bases(self):
        draw = random.Random(4)
        for trial in range(200):
            n = draw.randint(1, 5)
            values = drawn_function(draw, n)
            calls = [tell(*values)]
            if trial % 2 == 0:
                calls.append(fairest())
            if n > 1:
                calls += [move(*draw.sample(range(1, n + 1), 2)) for k in range(draw.randint(0, 3))]
            asked = ask(*calls, base(), tight())
            shares = untold(asked[-2])
            sets = [chosen for chosen in range(2 ** n) if sum(members(shares, chosen)) == values[chosen]]
            self.assertEqual(asked[-1], [len(sets)] + sets)

    def test_it_changes_nothing(self):
        look = [base(), corners(), room(1, 2), stretch(1, 2, 3), is_base(2, 2, -2)]
        before = [THREE, fairest(), move(1, 3)]
        self.assertEqual(ask(*before, tight(), *look)[4:], ask(*before, *look)[3:])
        asked = ask(*before, tight(), tight())
        self.assertEqual(asked[3], asked[4])


if __name__ == "__main__":
    unittest.main()
