"""The document's words, reckoned with exact fractions and by looking, for the tests to hold the program against."""

import random
from fractions import Fraction
from math import floor, gcd


def told_share(word, n, d):
    """The share by the document's words, as a Fraction."""
    return {"times": Fraction(n, d), "add": Fraction(d + n, d), "off": Fraction(d - n, d)}[word]


def told_rounded(value, unit, way):
    """The rounding by the document's words: the multiples on both sides are looked at."""
    below = floor(value / unit) * unit
    if below == value:
        return below
    above = below + unit
    if way == "near":
        return below if value - below < above - value else above
    return {"down": below, "up": above}[way]


def told_after(step, amount):
    word, n, d, pennies, way, unit = step
    return told_rounded(amount * told_share(word, n, d) + pennies, unit, way)


def steps_of(shares, pennies, units):
    """All steps of these, with every word and every way; an off whose n is not less than d is left out."""
    return [(word, n, d, more, way, unit)
            for word in ("times", "add", "off") for n, d in shares if word != "off" or n < d
            for more in pennies for way in ("down", "up", "near") for unit in units]


def told_trail(chain, price):
    amounts = [price]
    for step in chain:
        amounts.append(told_after(step, amounts[-1]))
    return amounts


def told_end(chain, price):
    return told_trail(chain, price)[-1]


def told_unrounded(chain, price):
    """The unrounded end by the document's words, as a Fraction."""
    value = Fraction(price)
    for word, n, d, pennies, way, unit in chain:
        value = value * told_share(word, n, d) + pennies
    return value


def told_product(chain):
    """The product of the steps' own cycles, by the document's formula with the share as it is told."""
    product = 1
    for word, n, d, pennies, way, unit in chain:
        s = {"times": n, "add": d + n, "off": d - n}[word]
        product *= d * unit // gcd(s, d * unit)
    return product


def mixed_chains(seed, many, most):
    """So many chains of 1 to 6 steps of all kinds, their products of own cycles at most most; always the same."""
    source = random.Random(seed)
    chains = []
    while len(chains) < many:
        chain = []
        # Only chains of small numbers may be long.
        small = source.choice((True, False))
        for place in range(source.randrange(1, 7)):
            word = source.choice(("times", "add", "off"))
            d = source.choice((1, 2, 3, 4, 5) if small else (6, 8, 10, 25, 50, 100, source.randrange(1, 101)))
            n = source.randrange(1, 101)
            if word == "off":
                d = max(d, 2)
                n = source.randrange(1, d)
            pennies = source.choice((0, 0, 1, 7, 50, 99, 1000, 10 ** 30 - 1, 10 ** 30))
            way = source.choice(("down", "up", "near"))
            unit = source.choice((1, 1, 2, 5) if small else (1, 1, 3, 10, 50, 100, source.randrange(1, 101)))
            chain.append((word, n, d, pennies, way, unit))
        # Steps are left out from behind until the rest is short enough.
        while told_product(chain) > most:
            chain.pop()
        if chain:
            chains.append(chain)
    return chains
