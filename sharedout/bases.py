"""The calls about one function on sets of things and one base of it.

Things are 1 to n, five at most. A set of them is a number, the sum of 1 for
thing 1, 2 for thing 2, 4 for thing 3, and so on. A function is a list: at
each set's number what it is for that set. A base is a list: what each thing
has, thing 1 first.
"""

TABLE_LENGTHS = (2, 4, 8, 16, 32)
MOST_THINGS = 5
MOST_HANDED = 20000
MOST_POINTS = 20
MOST_WEIGHT = 1000

BAD_NUMBERS = -1
BAD_FUNCTION = -6

TELL = 0
COVER = 1
ORDER = 2
GREED = 3
CORNERS = 4
IS_BASE = 5

# At each call's number: how many whole numbers it has, and how many rows.
WHOLES_OF_CALL = (0, 1, 0, 0, 0, 0, 0)
ROWS_OF_CALL = (1, 1, 1, 1, 0, 1, 0)


def whole(handed):
    """The number, maybe below 0, that was handed over as this one."""
    if handed % 2 == 0:
        return handed // 2
    return -((handed + 1) // 2)


def wholes(row):
    """The numbers that were handed over as this row."""
    return [whole(handed) for handed in row]


def is_within(row, most):
    """Whether no number of the row is above the most that is let."""
    return all([number <= most for number in row])


def set_of(thing):
    """The set that has this thing alone."""
    return 1 << (thing - 1)


def things_up_to(n):
    """The things in their own order."""
    return list(range(1, n + 1))


def together(shares, chosen):
    """What the things of a set have together."""
    return sum([share for place, share in enumerate(shares) if (chosen & set_of(place + 1)) != 0])


def brings(function, thing, chosen):
    """What a thing brings to a set that it is not in."""
    return function[chosen | set_of(thing)] - function[chosen]


def never_brings_more(function, chosen, outside):
    """Whether none of the things outside a set brings more once another of them is in it."""
    for other in outside:
        wider = chosen | set_of(other)
        for thing in outside:
            if thing != other and brings(function, thing, wider) > brings(function, thing, chosen):
                return False
    return True


def is_of_this_kind(function, n):
    """Whether it is 0 for no thing, and a thing brings no more, the more there is."""
    if function[0] != 0:
        return False
    for chosen in range(len(function)):
        outside = [thing for thing in things_up_to(n) if (chosen & set_of(thing)) == 0]
        if not never_brings_more(function, chosen, outside):
            return False
    return True


def is_points(n, row):
    """Whether the row is points that cover takes: of each its weight, then its set."""
    if len(row) % 2 != 0 or len(row) > 2 * MOST_POINTS:
        return False
    return is_within(row[0::2], MOST_WEIGHT) and is_within(row[1::2], TABLE_LENGTHS[n - 1] - 1)


def weight_met(points, chosen):
    """The weights, together, of the points whose set has something in common with this one."""
    return sum([weight for weight, reach in zip(points[0::2], points[1::2]) if (reach & chosen) != 0])


def base_by_order(function, things):
    """The corner by this order: each thing has what it brings to those before it."""
    shares = [0] * len(things)
    before = 0
    for thing in things:
        shares[thing - 1] = brings(function, thing, before)
        before = before | set_of(thing)
    return shares


def order_by_weight(weights):
    """The things, the greatest weight first, of as great ones the lower thing."""
    return sorted(things_up_to(len(weights)), key=lambda thing: (-weights[thing - 1], thing))


def orders_of(n):
    """Every order of the things."""
    found = [[]]
    for thing in things_up_to(n):
        longer = []
        for things in found:
            for place in range(len(things) + 1):
                longer.append(things[:place] + [thing] + things[place:])
        found = longer
    return found


def different_corners(function, n):
    """Every corner once, as tuples, in the order in which they are told."""
    seen = {}
    for things in orders_of(n):
        seen[tuple(base_by_order(function, things))] = True
    return sorted(seen.keys())


def lowest_with_too_much(function, shares):
    """The lowest set whose things have more than they may, or 0: no thing never has too much."""
    for chosen in range(1, len(function)):
        if together(shares, chosen) > function[chosen]:
            return chosen
    return 0


class Desk:
    """A function and a base of it, as the calls so far have left them."""

    def __init__(self):
        self.n = 1
        self.function = [0, 0]
        self.shares = [0]

    def take_function(self, n, function):
        """Make this the function, and answer it, if it is of the kind that has bases."""
        if not is_of_this_kind(function, n):
            return [BAD_FUNCTION]
        self.n = n
        self.function = function
        self.shares = base_by_order(function, things_up_to(n))
        return [n] + function

    def takes_row(self, row):
        """Whether the row has just one number for each thing, none of them too great."""
        return len(row) == self.n and is_within(row, MOST_HANDED)

    def tell(self, row):
        if len(row) not in TABLE_LENGTHS or not is_within(row, MOST_HANDED):
            return [BAD_NUMBERS]
        return self.take_function(TABLE_LENGTHS.index(len(row)) + 1, wholes(row))

    def cover(self, n, row):
        # n is judged first: how long the function is hangs on it.
        if n < 1 or n > MOST_THINGS or not is_points(n, row):
            return [BAD_NUMBERS]
        return self.take_function(n, [weight_met(row, chosen) for chosen in range(TABLE_LENGTHS[n - 1])])

    def order(self, things):
        if sorted(things) != things_up_to(self.n):
            return [BAD_NUMBERS]
        self.shares = base_by_order(self.function, things)
        return [self.n] + self.shares

    def greed(self, row):
        if not self.takes_row(row):
            return [BAD_NUMBERS]
        weights = wholes(row)
        self.shares = base_by_order(self.function, order_by_weight(weights))
        worth = sum([weight * share for weight, share in zip(weights, self.shares)])
        return [worth] + self.shares

    def corners(self):
        found = different_corners(self.function, self.n)
        answer = [len(found)]
        for corner in found:
            answer.extend(corner)
        return answer

    def is_base(self, row):
        if not self.takes_row(row):
            return [BAD_NUMBERS]
        shares = wholes(row)
        chosen = lowest_with_too_much(self.function, shares)
        if chosen != 0:
            return [0, 1, chosen]
        if sum(shares) < self.function[-1]:
            return [0, 0]
        return [1]

    def base(self):
        # Every base that these calls make is a corner, so whole: 1 is below each line.
        answer = []
        for share in self.shares:
            answer.extend([share, 1])
        return answer


def answer_of(desk, call, numbers, row):
    """What the desk answers to one call."""
    if call == TELL:
        return desk.tell(row)
    if call == COVER:
        return desk.cover(numbers[0], row)
    if call == ORDER:
        return desk.order(row)
    if call == GREED:
        return desk.greed(row)
    if call == CORNERS:
        return desk.corners()
    if call == IS_BASE:
        return desk.is_base(row)
    # Only base, 6, is left: a number that no call has was not found in the tables above.
    return desk.base()


def answers(calls):
    """Answer a list of calls on a new desk: of each how many numbers, then these."""
    desk = Desk()
    answered = []
    place = 0
    while place < len(calls):
        call = calls[place]
        start = place + 1 + WHOLES_OF_CALL[call]
        numbers = calls[place + 1:start]
        row = []
        place = start
        if ROWS_OF_CALL[call] == 1:
            place = start + 1 + calls[start]
            row = calls[start + 1:place]
        answer = answer_of(desk, call, numbers, row)
        answered.append(len(answer))
        answered.extend(answer)
    return answered
