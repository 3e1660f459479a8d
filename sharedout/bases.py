"""The calls about one function on sets of things and one base of it."""

from sharedout.sharing import as_fraction, as_fractions, base_by_greed, base_by_order, common_to_tight_sets
from sharedout.sharing import different_corners, fairest_parts, in_parts, is_of_this_kind, lowest_with_too_much
from sharedout.sharing import room_between, things_up_to, tight_sets, weight_met, worth_of

TABLE_LENGTHS = (2, 4, 8, 16, 32)
MOST_THINGS = 5
MOST_HANDED = 20000
MOST_POINTS = 20
MOST_WEIGHT = 1000

BAD_NUMBERS = -1
BAD_FUNCTION = -6

TELL = 0
COVER = 1
ORDER = 2
GREED = 3
CORNERS = 4
IS_BASE = 5
BASE = 6
TIGHT = 7
AROUND = 8
ROOM = 9
MOVE = 10
FAIREST = 11

# At each call's number: how many whole numbers it has, and how many rows.
WHOLES_OF_CALL = (0, 1, 0, 0, 0, 0, 0, 0, 1, 2, 2, 0, 0)
ROWS_OF_CALL = (1, 1, 1, 1, 0, 1, 0, 0, 0, 0, 0, 0, 1)


def whole(handed):
    """The number, maybe below 0, that was handed over as this one."""
    if handed % 2 == 0:
        return handed // 2
    return -((handed + 1) // 2)


def wholes(row):
    """The numbers that were handed over as this row."""
    return [whole(handed) for handed in row]


def is_within(row, most):
    """Whether no number of the row is above the most that is let."""
    return all([number <= most for number in row])


def is_points(n, row):
    """Whether the row is points that cover takes: of each its weight, then its set."""
    if len(row) % 2 != 0 or len(row) > 2 * MOST_POINTS:
        return False
    return is_within(row[0::2], MOST_WEIGHT) and is_within(row[1::2], TABLE_LENGTHS[n - 1] - 1)


class Desk:
    """A function and a base of it, in sixtieths, as the calls so far have left them."""

    def __init__(self):
        self.n = 1
        self.function = [0, 0]
        self.parts = [0]

    def take_function(self, n, function):
        """Make this the function, and answer it, if it is of the kind that has bases."""
        if not is_of_this_kind(function, n):
            return [BAD_FUNCTION]
        self.n = n
        self.function = function
        self.parts = in_parts(base_by_order(function, things_up_to(n)))
        return [n] + function

    def takes_row(self, row):
        """Whether the row has just one number for each thing, none of them too great."""
        return len(row) == self.n and is_within(row, MOST_HANDED)

    def is_thing(self, number):
        return number >= 1 and number <= self.n

    def takes_pair(self, i, j):
        """Whether these are two different things."""
        return self.is_thing(i) and self.is_thing(j) and i != j

    def tell(self, row):
        if len(row) not in TABLE_LENGTHS or not is_within(row, MOST_HANDED):
            return [BAD_NUMBERS]
        return self.take_function(TABLE_LENGTHS.index(len(row)) + 1, wholes(row))

    def cover(self, n, row):
        # n is judged first: how long the function is hangs on it.
        if n < 1 or n > MOST_THINGS or not is_points(n, row):
            return [BAD_NUMBERS]
        return self.take_function(n, [weight_met(row, chosen) for chosen in range(TABLE_LENGTHS[n - 1])])

    def order(self, things):
        if sorted(things) != things_up_to(self.n):
            return [BAD_NUMBERS]
        shares = base_by_order(self.function, things)
        self.parts = in_parts(shares)
        return [self.n] + shares

    def greed(self, row):
        if not self.takes_row(row):
            return [BAD_NUMBERS]
        weights = wholes(row)
        shares = base_by_greed(self.function, weights)
        self.parts = in_parts(shares)
        return [worth_of(shares, weights)] + shares

    def corners(self):
        found = different_corners(self.function, self.n)
        answer = [len(found)]
        for corner in found:
            answer.extend(corner)
        return answer

    def is_base(self, row):
        if not self.takes_row(row):
            return [BAD_NUMBERS]
        shares = wholes(row)
        chosen = lowest_with_too_much(self.function, shares)
        if chosen != 0:
            return [0, 1, chosen]
        if sum(shares) < self.function[-1]:
            return [0, 0]
        return [1]

    def base(self):
        return as_fractions(self.parts)

    def tight(self):
        found = tight_sets(self.function, self.parts)
        return [len(found)] + found

    def around(self, i):
        if not self.is_thing(i):
            return [BAD_NUMBERS]
        return [common_to_tight_sets(self.function, self.parts, i)]

    def room(self, i, j):
        if not self.takes_pair(i, j):
            return [BAD_NUMBERS]
        return as_fraction(room_between(self.function, self.parts, i, j))

    def move(self, i, j):
        if not self.takes_pair(i, j):
            return [BAD_NUMBERS]
        moved = room_between(self.function, self.parts, i, j)
        self.parts[i - 1] += moved
        self.parts[j - 1] -= moved
        return as_fraction(moved)

    def fairest(self):
        self.parts = fairest_parts(self.function, self.n)
        return as_fractions(self.parts)

    def stretch(self, row):
        if not self.takes_row(row):
            return [BAD_NUMBERS]
        weights = wholes(row)
        return [0, worth_of(base_by_greed(self.function, weights), weights)]


def answer_of(desk, call, numbers, row):
    """What the desk answers to one call."""
    if call == TELL:
        return desk.tell(row)
    if call == COVER:
        return desk.cover(numbers[0], row)
    if call == ORDER:
        return desk.order(row)
    if call == GREED:
        return desk.greed(row)
    if call == CORNERS:
        return desk.corners()
    if call == IS_BASE:
        return desk.is_base(row)
    if call == BASE:
        return desk.base()
    if call == TIGHT:
        return desk.tight()
    if call == AROUND:
        return desk.around(numbers[0])
    if call == ROOM:
        return desk.room(numbers[0], numbers[1])
    if call == MOVE:
        return desk.move(numbers[0], numbers[1])
    if call == FAIREST:
        return desk.fairest()
    # Only stretch, 12, is left: a number that no call has was not found in the tables above.
    return desk.stretch(row)


def answers(calls):
    """Answer a list of calls on a new desk: of each how many numbers, then these."""
    desk = Desk()
    answered = []
    place = 0
    while place < len(calls):
        call = calls[place]
        start = place + 1 + WHOLES_OF_CALL[call]
        numbers = calls[place + 1:start]
        row = []
        place = start
        if ROWS_OF_CALL[call] == 1:
            place = start + 1 + calls[start]
            row = calls[start + 1:place]
        answer = answer_of(desk, call, numbers, row)
        answered.append(len(answer))
        answered.extend(answer)
    return answered
