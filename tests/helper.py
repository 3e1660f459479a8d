"""Calls as they are handed in, what is answered to each of them, and functions to ask about."""

import itertools
from fractions import Fraction

from sharedout.bases import answers


def handed(number):
    """The whole number as it is handed over."""
    return 2 * number if number >= 0 else -2 * number - 1


def with_length(row):
    return [len(row)] + list(row)


def tell(*values):
    return tell_raw([handed(value) for value in values])


def tell_raw(row):
    return [0] + with_length(row)


def cover(n, *points):
    """Points as pairs of a weight and a set."""
    return cover_raw(n, [number for point in points for number in point])


def cover_raw(n, row):
    return [1, n] + with_length(row)


def order(*things):
    return [2] + with_length(things)


def greed(*weights):
    return greed_raw([handed(weight) for weight in weights])


def greed_raw(row):
    return [3] + with_length(row)


def corners():
    return [4]


def is_base(*numbers):
    return is_base_raw([handed(number) for number in numbers])


def is_base_raw(row):
    return [5] + with_length(row)


def base():
    return [6]


def tight():
    return [7]


def around(i):
    return [8, i]


def room(i, j):
    return [9, i, j]


def move(i, j):
    return [10, i, j]


def fairest():
    return [11]


def stretch(*weights):
    return stretch_raw([handed(weight) for weight in weights])


def stretch_raw(row):
    return [12] + with_length(row)


def ask(*calls):
    """The answers to these calls on one new object, one list of numbers a call."""
    return split(answers([number for call in calls for number in call]), len(calls))


def last(*calls):
    return ask(*calls)[-1]


def split(answered, count):
    """The answers apart, by the counts ahead of them."""
    parts = []
    place = 0
    while place < len(answered):
        end = place + 1 + answered[place]
        if end > len(answered):
            raise AssertionError(f"a count goes beyond the end: {answered}")
        parts.append(answered[place + 1:end])
        place = end
    if len(parts) != count:
        raise AssertionError(f"{count} calls, but {len(parts)} answers: {answered}")
    return parts


def by_size(*values):
    """The function that is values[k] for every set of k things."""
    n = len(values) - 1
    return [values[bin(chosen).count("1")] for chosen in range(2 ** n)]


def drawn_function(draw, n):
    """A function of this kind, often below 0 for some sets, often with several sets as little as one another."""
    points = [(draw.randint(0, 6), draw.randrange(2 ** n)) for k in range(draw.randint(0, 6))]
    gains = sorted((draw.randint(-4, 4) for k in range(n)), reverse=True)
    own = [draw.choice((0, 0, -5, -1, 3)) for k in range(n)]
    values = []
    for chosen in range(2 ** n):
        met = sum(weight for weight, reach in points if reach & chosen)
        values.append(met + sum(gains[:bin(chosen).count("1")]) + sum(members(own, chosen)))
    return values


def members(shares, chosen):
    """What each thing of a set has."""
    return [share for place, share in enumerate(shares) if chosen >> place & 1]


def is_base_of(values, shares):
    """Whether no set has too much, and all things have all."""
    have = [sum(members(shares, chosen)) for chosen in range(len(values))]
    return have[-1] == values[-1] and all(has <= value for has, value in zip(have, values))


def fairest_by_squares(values):
    """The fairest base by its squares: the least of all bases whose things share evenly, group by group."""
    n = len(values).bit_length() - 1
    found = {}
    for ranks in itertools.product(range(n), repeat=n):
        if set(ranks) == set(range(max(ranks) + 1)):
            shares = shared_by_ranks(values, ranks)
            if is_base_of(values, shares):
                found[tuple(shares)] = sum(share * share for share in shares)
    return list(min(found, key=found.get))


def shared_by_ranks(values, ranks):
    """The things of each rank share evenly what they bring to those of lower ranks."""
    shares = [None] * len(ranks)
    before = 0
    for rank in range(max(ranks) + 1):
        group = [place for place in range(len(ranks)) if ranks[place] == rank]
        behind = before + sum(1 << place for place in group)
        for place in group:
            shares[place] = Fraction(values[behind] - values[before], len(group))
        before = behind
    return shares


def told(shares):
    """Numbers as the fractions that are answered for them."""
    return [number for share in shares for number in (Fraction(share).numerator, Fraction(share).denominator)]


def untold(answer):
    """The numbers that were answered as fractions."""
    return [Fraction(above, below) for above, below in zip(answer[0::2], answer[1::2])]
