"""Shares: fractions of the land as tuples (top, below), told in lowest terms always."""

NOUGHT = (0, 1)
ONE = (1, 1)


def common_divisor(one, other):
    while other > 0:
        rest = one % other
        one = other
        other = rest
    return one


def lowest(top, below):
    divisor = common_divisor(top, below)
    return (top // divisor, below // divisor)


def plus_of_lowest(one, other):
    # Both shares are in lowest terms, so only a divisor that the two belows have in common
    # can still divide the sum. A long sum over unlike belows grows to many thousand digits;
    # looking for a divisor of the whole sum at each step would be slow there.
    common = common_divisor(one[1], other[1])
    top = one[0] * (other[1] // common) + other[0] * (one[1] // common)
    divisor = common_divisor(top, common)
    return (top // divisor, (one[1] // common) * (other[1] // divisor))


def plus(one, other):
    return plus_of_lowest(lowest(one[0], one[1]), lowest(other[0], other[1]))


def piece_of(share, many, of):
    return lowest(share[0] * many, share[1] * of)


def less(one, other):
    return one[0] * other[1] < other[0] * one[1]


def total_of(shares):
    total = NOUGHT
    for share in shares:
        total = plus_of_lowest(total, lowest(share[0], share[1]))
    return total
