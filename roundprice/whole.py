"""Reckoning with whole numbers that the other modules share."""


def common_divisor(one, other):
    """The greatest common divisor of one, from 0 on, and other, from 1 on."""
    while other > 0:
        rest = one % other
        one = other
        other = rest
    return one


def lowest(num, den):
    """The fraction num / den, den from 1 on, as a tuple (num, den) in lowest terms."""
    divisor = common_divisor(num, den)
    return (num // divisor, den // divisor)
