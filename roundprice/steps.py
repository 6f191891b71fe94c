"""Steps: tuples of six, (word, n, d, pennies, way, unit), that take an amount to another."""

from roundprice.whole import common_divisor, lowest

WORDS = ("times", "add", "off")
WAYS = ("down", "up", "near")


def share(step):
    """The share of the step in lowest terms, a tuple of numerator and denominator."""
    word = step[0]
    n = step[1]
    d = step[2]
    if word == "add":
        return lowest(d + n, d)
    if word == "off":
        return lowest(d - n, d)
    return lowest(n, d)


def rounded(num, den, unit, way):
    """The fraction num / den, rounded to a multiple of the unit by the way."""
    # num / den counts num / block units, so that the rounding is one whole division.
    block = den * unit
    if way == "down":
        return num // block * unit
    if way == "up":
        return (num + block - 1) // block * unit
    # Half a unit more and then down: of two that are equally near this is the greater one.
    return (2 * num + block) // (2 * block) * unit


def after(step, amount):
    """What the step takes the amount to."""
    pennies = step[3]
    way = step[4]
    unit = step[5]
    part = share(step)
    # Share and pennies go over one denominator, so that only the end of it is rounded.
    num = amount * part[0] + pennies * part[1]
    return rounded(num, part[1], unit, way)


def own_cycle(step):
    """The own cycle of the step and its rise, a tuple of two."""
    unit = step[5]
    part = share(step)
    block = part[1] * unit
    divisor = common_divisor(part[0], block)
    return (block // divisor, part[0] * unit // divisor)
