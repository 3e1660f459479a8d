"""What a function on sets lets its things have, and how it can be shared out.

Things are 1 to n, five at most. A set of them is a number, the sum of 1 for
thing 1, 2 for thing 2, 4 for thing 3, and so on. A function is a list: at
each set's number what it is for that set. Shares are a list: what each thing
has, thing 1 first; parts are the same, counted in sixtieths.
"""

# A thing's fairest share is a whole number divided by how many things a set has, 1 to 5, and a move adds and
# takes away only such shares. So in sixtieths every share of a base is a whole number.
PARTS_OF_ONE = 60


def set_of(thing):
    """The set that has this thing alone."""
    return 1 << (thing - 1)


def has(chosen, thing):
    """Whether the thing is in the set."""
    return (chosen & set_of(thing)) != 0


def things_up_to(n):
    """The things in their own order."""
    return list(range(1, n + 1))


def size_of(chosen):
    """How many things the set has."""
    return len([thing for thing in things_up_to(chosen.bit_length()) if has(chosen, thing)])


def together(shares, chosen):
    """What the things of a set have together."""
    return sum([share for place, share in enumerate(shares) if has(chosen, place + 1)])


def brings(function, thing, chosen):
    """What a thing brings to a set that it is not in."""
    return function[chosen | set_of(thing)] - function[chosen]


def never_brings_more(function, chosen, outside):
    """Whether none of the things outside a set brings more once another of them is in it."""
    for other in outside:
        wider = chosen | set_of(other)
        for thing in outside:
            if thing != other and brings(function, thing, wider) > brings(function, thing, chosen):
                return False
    return True


def is_of_this_kind(function, n):
    """Whether it is 0 for no thing, and a thing brings no more, the more there is."""
    if function[0] != 0:
        return False
    for chosen in range(len(function)):
        outside = [thing for thing in things_up_to(n) if not has(chosen, thing)]
        if not never_brings_more(function, chosen, outside):
            return False
    return True


def weight_met(points, chosen):
    """The weights, together, of the points whose set has something in common with this one."""
    return sum([weight for weight, reach in zip(points[0::2], points[1::2]) if (reach & chosen) != 0])


def base_by_order(function, things):
    """The corner by this order: each thing has what it brings to those before it."""
    shares = [0] * len(things)
    before = 0
    for thing in things:
        shares[thing - 1] = brings(function, thing, before)
        before = before | set_of(thing)
    return shares


def order_by_weight(weights):
    """The things, the greatest weight first, of as great ones the lower thing."""
    return sorted(things_up_to(len(weights)), key=lambda thing: (-weights[thing - 1], thing))


def base_by_greed(function, weights):
    """The corner that has the greatest worth for these weights."""
    return base_by_order(function, order_by_weight(weights))


def worth_of(shares, weights):
    """What each thing has times its weight, together."""
    return sum([share * weight for share, weight in zip(shares, weights)])


def orders_of(n):
    """Every order of the things."""
    found = [[]]
    for thing in things_up_to(n):
        longer = []
        for things in found:
            for place in range(len(things) + 1):
                longer.append(things[:place] + [thing] + things[place:])
        found = longer
    return found


def different_corners(function, n):
    """Every corner once, as tuples, in the order in which they are told."""
    seen = {}
    for things in orders_of(n):
        seen[tuple(base_by_order(function, things))] = True
    return sorted(seen.keys())


def lowest_with_too_much(function, shares):
    """The lowest set whose things have more than they may, or 0: no thing never has too much."""
    for chosen in range(1, len(function)):
        if together(shares, chosen) > function[chosen]:
            return chosen
    return 0


def in_parts(shares):
    """Whole shares in sixtieths."""
    return [PARTS_OF_ONE * share for share in shares]


def as_fraction(count):
    """So many sixtieths in lowest terms: above and below the line."""
    common = max([size for size in range(1, PARTS_OF_ONE + 1) if PARTS_OF_ONE % size == 0 and count % size == 0])
    return [count // common, PARTS_OF_ONE // common]


def as_fractions(parts):
    """What each thing has as a fraction, one behind another."""
    told = []
    for count in parts:
        told.extend(as_fraction(count))
    return told


def left_to(function, parts, chosen):
    """How many sixtieths the things of a set may still have more, together."""
    return PARTS_OF_ONE * function[chosen] - together(parts, chosen)


def tight_sets(function, parts):
    """The sets that have as much as they may, rising."""
    return [chosen for chosen in range(len(function)) if left_to(function, parts, chosen) == 0]


def common_to_tight_sets(function, parts, thing):
    """The set of the things that are in all tight sets that have this thing."""
    common = len(function) - 1
    for chosen in tight_sets(function, parts):
        if has(chosen, thing):
            common = common & chosen
    return common


def room_between(function, parts, gainer, giver):
    """How many sixtieths can go from the giver to the gainer, at most."""
    # A set with both of them or with neither has as much behind a move as before it.
    between = [chosen for chosen in range(len(function)) if has(chosen, gainer) and not has(chosen, giver)]
    return min([left_to(function, parts, chosen) for chosen in between])


def means_beside(function, settled):
    """For each set of things that are not settled what it brings to these, divided by its size, in sixtieths."""
    means = {}
    for chosen in range(1, len(function)):
        if (chosen & settled) == 0:
            means[chosen] = PARTS_OF_ONE * (function[settled | chosen] - function[settled]) // size_of(chosen)
    return means


def all_with_mean(means, wanted):
    """All things of all sets that have this mean, as one set."""
    reached = 0
    for chosen, mean in means.items():
        if mean == wanted:
            reached = reached | chosen
    return reached


def fairest_parts(function, n):
    """The base whose squares come to least, in sixtieths."""
    parts = [0] * n
    settled = 0
    while settled != len(function) - 1:
        means = means_beside(function, settled)
        least = min(means.values())
        reached = all_with_mean(means, least)
        for thing in things_up_to(n):
            if has(reached, thing):
                parts[thing - 1] = least
        settled = settled | reached
    return parts
