"""room and move: what is told of both, and what a move leaves behind."""

import random
import unittest
from fractions import Fraction

from tests.helper import (
    around, ask, base, by_size, corners, cover, drawn_function, fairest, greed, is_base, is_base_of, last, members,
    move, order, room, stretch, tell, tight, told, untold,
)

THREE = tell(0, 4, 3, 6, -2, 1, 0, 2)
THIRDS = tell(*by_size(0, 1, 1, 1))


def greatest_step(values, shares, i, j):
    """The room by its words: of all steps that fill some set the greatest that leaves a base."""
    steps = [Fraction(values[chosen]) - sum(members(shares, chosen)) for chosen in range(len(values))]
    return max(step for step in steps if is_base_of(values, moved(shares, i, j, step)))


def moved(shares, i, j, step):
    changed = list(shares)
    changed[i - 1] += step
    changed[j - 1] -= step
    return changed


class Room(unittest.TestCase):
    def check(self, *calls, rooms):
        for (i, j), fraction in rooms.items():
            with self.subTest(i=i, j=j):
                self.assertEqual(last(*calls, room(i, j)), fraction)
                self.assertEqual(last(*calls, move(i, j)), fraction)

    def test_after_tell(self):
        none = [0, 1]
        self.check(THREE, rooms={
            (1, 2): none, (1, 3): none, (2, 1): [1, 1], (2, 3): none, (3, 1): [2, 1], (3, 2): [1, 1],
        })

    def test_after_cover(self):
        self.check(cover(2, (1, 1), (10, 2), (100, 3)), rooms={(1, 2): [0, 1], (2, 1): [100, 1]})
        self.check(cover(5), rooms={(1, 5): [0, 1], (5, 1): [0, 1]})

    def test_after_order_and_greed(self):
        self.check(THREE, order(3, 2, 1), rooms={(1, 2): [1, 1], (1, 3): [2, 1], (2, 3): [1, 1], (3, 1): [0, 1]})
        self.check(THREE, greed(1, 2, 3), rooms={(1, 2): [1, 1], (1, 3): [2, 1], (2, 3): [1, 1], (3, 1): [0, 1]})

    def test_after_fairest(self):
        self.check(cover(2, (5, 3)), fairest(), rooms={(1, 2): [5, 2], (2, 1): [5, 2]})
        self.check(THIRDS, fairest(), rooms={(1, 2): [1, 3], (2, 3): [1, 3], (3, 1): [1, 3]})
        self.check(cover(4, (3, 15)), fairest(), rooms={(1, 4): [3, 4], (4, 1): [3, 4]})
        self.check(cover(5, (7, 31)), fairest(), rooms={(5, 2): [7, 5]})
        self.check(cover(4, (1, 3), (1, 12)), fairest(), rooms={(1, 2): [1, 2], (1, 3): [0, 1], (4, 3): [1, 2]})

    def test_in_lowest_terms(self):
        self.check(cover(4, (6, 15)), fairest(), rooms={(1, 2): [3, 2]})
        self.check(cover(4, (8, 15)), fairest(), rooms={(1, 2): [2, 1]})

    def test_of_great_numbers(self):
        self.check(tell(0, 10000, 10000, -9999), rooms={(1, 2): [0, 1], (2, 1): [29999, 1]})
        self.check(tell(0, 10000, 10000, -9999), fairest(), rooms={(1, 2): [29999, 2], (2, 1): [29999, 2]})

    def test_room_changes_nothing(self):
        look = [base(), tight(), around(1), corners(), stretch(3, 1, 2)]
        for before in ([THREE], [THREE, fairest()], [THIRDS, fairest(), move(1, 2)]):
            kept = ask(*before, *look)[len(before):]
            for i, j in ((1, 2), (2, 1), (3, 1)):
                self.assertEqual(ask(*before, room(i, j), *look)[len(before) + 1:], kept)
                twice = ask(*before, room(i, j), room(i, j))
                self.assertEqual(twice[-1], twice[-2])


class Move(unittest.TestCase):
    def test_i_has_more_and_j_less(self):
        self.assertEqual(ask(THREE, move(3, 1), base())[1:], [[2, 1], [2, 1, 2, 1, -2, 1]])
        self.assertEqual(ask(THREE, move(2, 1), base())[1:], [[1, 1], [3, 1, 3, 1, -4, 1]])
        self.assertEqual(ask(THREE, move(1, 2), base())[1:], [[0, 1], [4, 1, 2, 1, -4, 1]])

    def test_what_is_asked_behind_it_speaks_of_the_new_base(self):
        asked = ask(THREE, move(3, 2), base(), tight(), around(3), around(2), room(3, 2), room(2, 3), room(3, 1))
        self.assertEqual(asked[1:], [
            [1, 1], [4, 1, 1, 1, -3, 1], [4, 0, 1, 5, 7], [5], [7], [0, 1], [1, 1], [1, 1],
        ])

    def test_behind_fairest(self):
        asked = ask(THIRDS, fairest(), move(1, 2), base(), tight(), around(1), room(1, 2), room(2, 1), room(1, 3))
        self.assertEqual(asked[2:], [
            [1, 3], [2, 3, 0, 1, 1, 3], [3, 0, 5, 7], [5], [0, 1], [2, 3], [1, 3],
        ])

    def test_behind_another(self):
        asked = ask(THIRDS, fairest(), move(1, 2), move(1, 3), base(), move(2, 1), base())
        self.assertEqual(asked[2:], [
            [1, 3], [1, 3], [1, 1, 0, 1, 0, 1], [1, 1], [0, 1, 1, 1, 0, 1],
        ])
        asked = ask(THREE, move(3, 1), move(1, 2), base())
        self.assertEqual(asked[1:], [[2, 1], [1, 1], [3, 1, 1, 1, -2, 1]])

    def test_the_same_again_has_no_room(self):
        self.assertEqual(ask(THREE, move(3, 1), move(3, 1), base())[2:], [[0, 1], [2, 1, 2, 1, -2, 1]])

    def test_there_and_back(self):
        asked = ask(THREE, move(3, 1), move(1, 3), base())
        self.assertEqual(asked[1:], [[2, 1], [2, 1], [4, 1, 2, 1, -4, 1]])
        # Back goes on as far as there is room: farther than where it came from.
        asked = ask(cover(2, (5, 3)), fairest(), move(1, 2), move(2, 1), base())
        self.assertEqual(asked[2:], [[5, 2], [5, 1], [0, 1, 5, 1]])

    def test_fractions_below_0_stay(self):
        asked = ask(tell(*by_size(0, 0, -1, -4)), fairest(), move(1, 3), base(), room(2, 3), move(2, 3), base())
        self.assertEqual(asked[1:], [
            [-4, 3] * 3, [4, 3], [0, 1, -4, 3, -8, 3], [1, 3], [1, 3], [0, 1, -1, 1, -3, 1],
        ])

    def test_the_function_stays(self):
        look = [corners(), is_base(2, 2, -2), is_base(5, 0, 0), stretch(1, 2, 3), fairest()]
        self.assertEqual(ask(THREE, move(3, 1), *look)[2:], ask(THREE, *look)[1:])

    def test_order_greed_tell_and_cover_make_the_base_a_whole_one_again(self):
        before = [THIRDS, fairest(), move(1, 2)]
        self.assertEqual(ask(*before, order(3, 2, 1), base())[3:], [[3, 0, 0, 1], [0, 1, 0, 1, 1, 1]])
        self.assertEqual(ask(*before, greed(0, 1, 0), base())[3:], [[1, 0, 1, 0], [0, 1, 1, 1, 0, 1]])
        self.assertEqual(last(*before, THIRDS, base()), [1, 1, 0, 1, 0, 1])
        self.assertEqual(last(*before, cover(2, (5, 3)), base()), [5, 1, 0, 1])


class Drawn(unittest.TestCase):
    def test_rooms_and_moves(self):
        draw = random.Random(8)
        for trial in range(300):
            n = draw.randint(2, 5)
            values = drawn_function(draw, n)
            calls = [tell(*values)] + [fairest()] * draw.randint(0, 1)
            shares = untold(last(*calls, base()))
            for step in range(4):
                i, j = draw.sample(range(1, n + 1), 2)
                expected = greatest_step(values, shares, i, j)
                asked = ask(*calls, room(i, j), move(i, j), base())
                self.assertEqual(asked[-3:-1], [told([expected])] * 2)
                shares = moved(shares, i, j, expected)
                self.assertEqual(asked[-1], told(shares))
                calls.append(move(i, j))


class Refused(unittest.TestCase):
    def check(self, before, pairs):
        look = [base(), tight(), around(1), corners()]
        kept = ask(*before, *look)[len(before):]
        for i, j in pairs:
            for call in (room(i, j), move(i, j)):
                with self.subTest(call=call):
                    asked = ask(*before, call, *look)[len(before):]
                    self.assertEqual(asked[0], [-1])
                    self.assertEqual(asked[1:], kept)

    def test_no_thing_i(self):
        pairs = [(0, 1), (4, 1), (4294967295, 1)]
        self.check([THREE], pairs)
        self.check([THIRDS, fairest(), move(1, 2)], pairs)

    def test_no_thing_j(self):
        pairs = [(1, 0), (1, 4), (3, 4294967295)]
        self.check([THREE], pairs)
        self.check([THIRDS, fairest(), move(1, 2)], pairs)

    def test_neither_is_a_thing(self):
        self.check([THREE], [(0, 0), (4, 4), (0, 4), (4294967295, 4294967295)])

    def test_both_the_same(self):
        self.check([THREE], [(1, 1), (2, 2), (3, 3)])
        self.check([THIRDS, fairest(), move(1, 2)], [(1, 1), (2, 2), (3, 3)])

    def test_things_are_those_of_the_function_told_last(self):
        self.check([THREE, cover(2, (5, 3))], [(3, 1), (1, 3)])
        self.assertEqual(ask(cover(2, (5, 3)), move(3, 1), THREE, move(3, 1))[1::2], [[-1], [2, 1]])

    def test_at_the_beginning(self):
        self.check([], [(1, 1), (1, 2), (2, 1), (0, 1), (1, 0)])


if __name__ == "__main__":
    unittest.main()
