"""Lines that mix all thirteen calls, refused ones among them, beside a slow model that keeps to the words."""

import itertools
import random
import unittest
from fractions import Fraction

from sharedout.bases import answers
from tests.helper import (
    around, ask, base, by_size, corners, cover, cover_raw, drawn_function, fairest, fairest_by_squares, greed,
    greed_raw, handed, is_base, is_base_of, is_base_raw, last, members, move, order, room, stretch, stretch_raw, tell,
    tell_raw, tight, told,
)


class Model:
    """Sets as Python's sets, shares as fractions, every answer by going through all there is."""

    def __init__(self):
        self.values = [0, 0]
        self.shares = [Fraction(0)]

    def n(self):
        return len(self.shares)

    def take(self, values):
        for one in range(len(values)):
            for other in range(len(values)):
                if values[one | other] + values[one & other] > values[one] + values[other]:
                    return [-6]
        if values[0] != 0:
            return [-6]
        n = len(values).bit_length() - 1
        self.values = values
        self.shares = self.corner(range(1, n + 1))
        return [n] + values

    def corner(self, things):
        shares = {}
        before = 0
        for thing in things:
            shares[thing] = Fraction(self.values[before + 2 ** (thing - 1)] - self.values[before])
            before += 2 ** (thing - 1)
        return [shares[thing] for thing in sorted(shares)]

    def tight(self):
        return [chosen for chosen, value in enumerate(self.values) if sum(members(self.shares, chosen)) == value]

    def moved(self, i, j, step):
        shares = list(self.shares)
        shares[i - 1] += step
        shares[j - 1] -= step
        return shares

    def room(self, i, j):
        steps = [value - sum(members(self.shares, chosen)) for chosen, value in enumerate(self.values)]
        return max(step for step in steps if is_base_of(self.values, self.moved(i, j, step)))

    def answer(self, call):
        """The answer to a call as it is handed in, which is taken apart here once more."""
        number = call[0]
        if number == 0:
            return self.answer_tell(call[2:])
        if number == 1:
            return self.answer_cover(call[1], call[3:])
        if number in (2, 3, 5, 12):
            return self.answer_row(number, call[2:])
        if number == 4:
            found = sorted(set(tuple(self.corner(o)) for o in itertools.permutations(range(1, self.n() + 1))))
            return [len(found)] + [int(share) for corner in found for share in corner]
        if number == 7:
            return [len(self.tight())] + self.tight()
        if number in (8, 9, 10):
            return self.answer_things(number, call[1:])
        if number == 11:
            self.shares = fairest_by_squares(self.values)
        return told(self.shares)

    def answer_tell(self, row):
        if len(row) not in (2, 4, 8, 16, 32) or any(number > 20000 for number in row):
            return [-1]
        return self.take([signed(number) for number in row])

    def answer_cover(self, n, row):
        if n not in (1, 2, 3, 4, 5) or len(row) % 2 == 1 or len(row) > 40:
            return [-1]
        points = list(zip(row[0::2], row[1::2]))
        if any(weight > 1000 or reach >= 2 ** n for weight, reach in points):
            return [-1]
        return self.take([sum(w for w, reach in points if reach & chosen) for chosen in range(2 ** n)])

    def answer_row(self, number, row):
        if number == 2:
            if sorted(row) != list(range(1, self.n() + 1)):
                return [-1]
            self.shares = self.corner(row)
            return [self.n()] + [int(share) for share in self.shares]
        if len(row) != self.n() or max(row) > 20000:
            return [-1]
        signs = [signed(number) for number in row]
        if number == 5:
            have = [sum(members(signs, chosen)) for chosen in range(len(self.values))]
            over = [chosen for chosen, value in enumerate(self.values) if have[chosen] > value]
            if over:
                return [0, 1, over[0]]
            return [1] if have[-1] == self.values[-1] else [0, 0]
        shares = self.corner(sorted(range(1, self.n() + 1), key=lambda thing: -signs[thing - 1]))
        worth = int(sum(share * weight for share, weight in zip(shares, signs)))
        if number == 12:
            return [0, worth]
        self.shares = shares
        return [worth] + [int(share) for share in shares]

    def answer_things(self, number, things):
        if any(thing < 1 or thing > self.n() for thing in things) or len(set(things)) < len(things):
            return [-1]
        if number == 8:
            common = set(range(self.n()))
            for chosen in self.tight():
                if chosen >> (things[0] - 1) & 1:
                    common &= {k for k in range(self.n()) if chosen >> k & 1}
            return [sum(2 ** k for k in common)]
        step = self.room(*things)
        if number == 10:
            self.shares = self.moved(*things, step)
        return told([step])


def signed(number):
    return number // 2 if number % 2 == 0 else -(number + 1) // 2


def drawn_call(draw, n):
    """One call, most often such as is let with n things."""
    weights = [draw.randint(-4, 4) for k in range(n)]
    things = draw.sample(range(1, n + 1), n)
    i, j = draw.choice(things), draw.randint(1, n)
    return draw.choice((
        order(*things), greed(*weights), corners(), is_base(*weights), base(), tight(), around(i), room(i, j),
        move(i, j), move(i, j), fairest(), fairest(), stretch(*weights),
    ))


def drawn_refusal(draw, n):
    return draw.choice((
        tell_raw([0] * draw.choice((0, 1, 3, 5, 31, 33))), tell_raw([0, 20001]), tell(1, 1), tell(0, 0, 0, 1),
        cover_raw(draw.choice((0, 6)), []), cover_raw(2, [1]), cover_raw(2, [1001, 1]), cover_raw(2, [1, 4]),
        cover_raw(2, [1, 1] * 21), order(*range(n)), order(*[1] * (n + 1)), greed_raw([0] * (n + 1)),
        greed_raw([20001] * n), is_base_raw([0] * (n - 1)), is_base_raw([20001] * n), around(0), around(n + 1),
        room(0, 1), room(1, n + 1), room(1, 1), move(0, 1), move(n + 1, 1), move(1, 1), move(1, 4294967295),
        stretch_raw([0] * (n - 1)), stretch_raw([20001] * n),
    ))


class Lines(unittest.TestCase):
    def test_drawn_lines(self):
        draw = random.Random(12)
        numbers = set()
        for trial in range(80):
            n = 1
            calls = []
            for k in range(30):
                if draw.random() < 0.12:
                    n = draw.choice((1, 2, 3, 3, 4))
                    points = [(draw.randint(0, 9), draw.randrange(2 ** n)) for k in range(draw.randint(0, 5))]
                    calls.append(draw.choice((tell(*drawn_function(draw, n)), cover(n, *points))))
                elif draw.random() < 0.2:
                    calls.append(drawn_refusal(draw, n))
                else:
                    calls.append(drawn_call(draw, n))
            numbers |= {call[0] for call in calls}
            model = Model()
            self.assertEqual(ask(*calls), [model.answer(call) for call in calls])
        self.assertEqual(numbers, set(range(13)))

    def test_behind_a_refusal_all_is_as_it_was(self):
        draw = random.Random(13)
        for trial in range(300):
            n = draw.randint(2, 5)
            before = [tell(*drawn_function(draw, n))] + [drawn_call(draw, n) for k in range(4)] + [fairest()]
            before.append(move(*draw.sample(range(1, n + 1), 2)))
            weights = range(n)
            look = [base(), tight(), around(n), room(1, 2), corners(), stretch(*weights), is_base(*weights)]
            look += [move(2, 1), base(), fairest(), greed(*weights)]
            refused = drawn_refusal(draw, n)
            asked = ask(*before, refused, *look)[len(before):]
            self.assertIn(asked[0], ([-1], [-6]), refused)
            self.assertEqual(asked[1:], ask(*before, *look)[len(before):], refused)

    def test_a_refused_tell_or_cover_leaves_the_fractions(self):
        before = [tell(*by_size(0, 1, 1, 1)), fairest(), move(1, 2)]
        for refused in (tell(0, 0, 0, 1), tell(1, 1), tell_raw([0]), cover_raw(6, []), cover_raw(1, [1])):
            self.assertEqual(last(*before, refused, base()), [2, 3, 0, 1, 1, 3])
            self.assertEqual(last(*before, refused, tight()), [3, 0, 5, 7])

    def test_tell_and_cover_behind_fairest_begin_anew(self):
        five = by_size(0, 9, 14, 16, 15, 9)
        asked = ask(tell(*five), fairest(), move(2, 4), tell(*five), base(), tight())
        self.assertEqual(asked[4:], [[9, 1, 5, 1, 2, 1, -1, 1, -6, 1], [6, 0, 1, 3, 7, 15, 31]])
        asked = ask(tell(*five), fairest(), cover(2, (1, 1), (10, 2), (100, 3)), base(), tight(), around(2), room(2, 1))
        self.assertEqual(asked[3:], [[101, 1, 10, 1], [3, 0, 1, 3], [3], [100, 1]])
        asked = ask(cover(2, (5, 3)), fairest(), tell(0, -3), base(), tight(), fairest())
        self.assertEqual(asked[3:], [[-3, 1], [2, 0, 1], [-3, 1]])

    def test_the_same_list_twice(self):
        draw = random.Random(14)
        for trial in range(20):
            calls = tell(*drawn_function(draw, 4))
            for k in range(29):
                calls += drawn_call(draw, 4)
            copy = list(calls)
            first = answers(calls)
            self.assertEqual(calls, copy)
            self.assertEqual(answers(calls), first)
            self.assertEqual(answers(copy), first)

    def test_how_numbers_are_handed_over(self):
        self.assertEqual([handed(number) for number in (0, 3, -3, -1, 10000, -10000)], [0, 6, 5, 1, 20000, 19999])
        self.assertEqual([signed(number) for number in (0, 6, 5, 1, 20000, 19999)], [0, 3, -3, -1, 10000, -10000])


if __name__ == "__main__":
    unittest.main()
