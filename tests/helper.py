"""Calls as they are handed in, and what is answered to each of them."""

from sharedout.bases import answers


def handed(number):
    """The whole number as it is handed over."""
    return 2 * number if number >= 0 else -2 * number - 1


def with_length(row):
    return [len(row)] + list(row)


def tell(*values):
    return tell_raw([handed(value) for value in values])


def tell_raw(row):
    return [0] + with_length(row)


def cover(n, *points):
    """Points as pairs of a weight and a set."""
    return cover_raw(n, [number for point in points for number in point])


def cover_raw(n, row):
    return [1, n] + with_length(row)


def order(*things):
    return [2] + with_length(things)


def greed(*weights):
    return greed_raw([handed(weight) for weight in weights])


def greed_raw(row):
    return [3] + with_length(row)


def corners():
    return [4]


def is_base(*numbers):
    return is_base_raw([handed(number) for number in numbers])


def is_base_raw(row):
    return [5] + with_length(row)


def base():
    return [6]


def ask(*calls):
    """The answers to these calls on one new object, one list of numbers a call."""
    return split(answers([number for call in calls for number in call]), len(calls))


def last(*calls):
    return ask(*calls)[-1]


def split(answered, count):
    """The answers apart, by the counts ahead of them."""
    parts = []
    place = 0
    while place < len(answered):
        end = place + 1 + answered[place]
        if end > len(answered):
            raise AssertionError(f"a count goes beyond the end: {answered}")
        parts.append(answered[place + 1:end])
        place = end
    if len(parts) != count:
        raise AssertionError(f"{count} calls, but {len(parts)} answers: {answered}")
    return parts


def by_size(*values):
    """The function that is values[k] for every set of k things."""
    n = len(values) - 1
    return [values[bin(chosen).count("1")] for chosen in range(2 ** n)]
