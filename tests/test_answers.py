import unittest

from sharedout.bases import answers
from tests.helper import (
    around, ask, base, by_size, corners, cover, cover_raw, fairest, greed, greed_raw, is_base, move, order, room,
    stretch, stretch_raw, tell, tell_raw, tight,
)


def joined(calls):
    return [number for call in calls for number in call]


class Answers(unittest.TestCase):
    def test_one_call(self):
        self.assertEqual(answers([6]), [2, 0, 1])
        self.assertEqual(answers([4]), [2, 1, 0])
        self.assertEqual(answers([0, 0]), [1, -1])
        self.assertEqual(answers([7]), [3, 2, 0, 1])
        self.assertEqual(answers([8, 1]), [1, 1])
        self.assertEqual(answers([9, 1, 1]), [1, -1])
        self.assertEqual(answers([10, 1, 2]), [1, -1])
        self.assertEqual(answers([11]), [2, 0, 1])
        self.assertEqual(answers([12, 1, 4]), [2, 0, 0])

    def test_each_call_by_its_number(self):
        calls = [
            0, 4, 0, 10, 6, 12,
            1, 2, 4, 3, 1, 4, 3,
            2, 2, 2, 1,
            3, 2, 3, 6,
            4,
            5, 2, 14, 0,
            6,
            7,
            8, 1,
            9, 1, 2,
            10, 1, 2,
            11,
            12, 2, 3, 6,
        ]
        self.assertEqual(answers(calls), [
            5, 2, 0, 5, 3, 6,
            5, 2, 0, 7, 4, 7,
            3, 2, 3, 4,
            3, 6, 3, 4,
            5, 2, 3, 4, 7, 0,
            1, 1,
            4, 3, 1, 4, 1,
            4, 3, 0, 2, 3,
            1, 3,
            2, 4, 1,
            2, 4, 1,
            4, 7, 2, 7, 2,
            2, 0, 6,
        ])

    def test_counts_and_refusals_in_one_list(self):
        calls = [
            tell(0, 5, -3, 1), tell_raw([]), base(), order(1, 1), order(2, 1), cover_raw(0, []),
            base(), greed_raw([20001, 0]), corners(), is_base(4, -4), is_base(5, -3), is_base(1), tell(0, 0, 0, 1),
            around(3), tight(), room(2, 2), move(1, 0), move(1, 2), around(1), stretch_raw([20001, 0]), stretch(0, 1),
        ]
        self.assertEqual(answers(joined(calls)), [
            5, 2, 0, 5, -3, 1,
            1, -1,
            4, 5, 1, -4, 1,
            1, -1,
            3, 2, 4, -3,
            1, -1,
            4, 4, 1, -3, 1,
            1, -1,
            5, 2, 4, -3, 5, -4,
            2, 0, 0,
            3, 0, 1, 3,
            1, -1,
            1, -6,
            1, -1,
            4, 3, 0, 2, 3,
            1, -1,
            1, -1,
            2, 1, 1,
            1, 1,
            1, -1,
            2, 0, -3,
        ])

    def test_thirty_calls(self):
        calls = []
        expected = []
        for k in range(10):
            calls += [tell(0, k, -k, -k), order(2, 2), greed(0, 1)]
            expected += [[2, 0, k, -k, -k], [-1], [-k, 0, -k]]
        self.assertEqual(ask(*calls), expected)

    def test_the_longest_list(self):
        calls = [cover_raw(5, [1000, 31] * 20 + [1] * 10)] * 30
        self.assertEqual(len(joined(calls)), 1590)
        self.assertEqual(ask(*calls), [[-1]] * 30)

    def test_thirty_times_all_corners(self):
        calls = [tell(*by_size(0, 9, 14, 16, 15, 9))] + [corners()] * 29
        for answer in ask(*calls)[1:]:
            self.assertEqual(len(answer), 601)

    def test_numbers_in_a_row_are_not_taken_for_calls(self):
        self.assertEqual(ask(order(6, 6, 6), cover_raw(4, [4]), tell_raw([6] * 40), base()), [[-1], [-1], [-1], [0, 1]])
        self.assertEqual(ask(room(6, 6), around(7), move(11, 4), stretch_raw([7] * 10), base()), [[-1]] * 4 + [[0, 1]])

    def test_nothing_is_kept_from_one_time_to_the_next(self):
        look = joined([base(), corners(), is_base(0), order(1), greed(3), tight(), around(1), stretch(2), fairest()])
        first = answers(look)
        kept = [2, 0, 1, 2, 1, 0, 1, 1, 2, 1, 0, 2, 0, 0, 3, 2, 0, 1, 1, 1, 2, 0, 0, 2, 0, 1]
        self.assertEqual(first, kept)
        answers(joined([tell(0, 5, -3, 1), order(2, 1), greed(0, 1), fairest(), move(1, 2)]))
        self.assertEqual(answers(look), kept)
        first.clear()
        self.assertEqual(answers(look), kept)

    def test_what_is_handed_in_is_not_changed(self):
        calls = joined([
            tell(0, 4, 3, 6, -2, 1, 0, 2), order(3, 1, 2), greed(-1, 5, 5), is_base(4, 2, -4), corners(),
            cover(2, (1, 1), (10, 2)), greed_raw([1, 20001]), base(), tell(0, 1, 1, 3), cover(3, (5, 7)), fairest(),
            move(1, 2), room(2, 3), tight(), around(3), stretch(3, -1, 2), move(0, 1), stretch_raw([20001]),
        ])
        copy = list(calls)
        answers(calls)
        self.assertEqual(calls, copy)

    def test_nor_for_a_while(self):
        answers(Unchanged(joined([
            tell(0, 5, -3, 1), order(2, 1), greed(0, 1), fairest(), move(2, 1), room(1, 2), tight(), around(2),
            stretch(1, 2), is_base(5, -4), cover(1, (2, 1)), corners(), base(),
        ])))

    def test_whole_numbers_alone_are_answered(self):
        answered = answers(joined([
            tell(0, 5, -3, 1), order(2, 1), greed(0, 1), is_base(5, -4), corners(), base(), order(), fairest(), base(),
            room(1, 2), move(2, 1), tight(), around(1), stretch(1, 2), cover(3, (5, 7)), fairest(), base(), move(1, 2),
        ]))
        self.assertIs(type(answered), list)
        for number in answered:
            self.assertIs(type(number), int)


class Unchanged(list):
    """A list that fails at every try to change it."""

    def refuse(self, *given, **named):
        raise AssertionError("the list that was handed in was changed")

    __setitem__ = __delitem__ = __iadd__ = __imul__ = refuse
    append = clear = extend = insert = pop = remove = reverse = sort = refuse


if __name__ == "__main__":
    unittest.main()
