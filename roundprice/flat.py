"""The flat form of a chain: its least cycle, the rise, and the ends of the first cycle."""

from roundprice.price import check_price
from roundprice.steps import after, own_cycle
from roundprice.whole import common_divisor, prime_factors


class Flat:
    """A chain's flat form, made by flatten: cycle, rise, and a tuple of the ends below the cycle."""

    def __init__(self, cycle, rise, ends):
        self.cycle = cycle
        self.rise = rise
        self.ends = ends

    def end(self, price):
        """The end of the price, the same as the chain's."""
        check_price(price)
        return price // self.cycle * self.rise + self.ends[price % self.cycle]


def flatten(chain):
    """The flat form of the chain."""
    found = some_cycle(chain)
    ends = first_ends(chain, found[0])
    least = least_cycle(ends, found[1])
    return Flat(least[0], least[1], tuple(ends[:least[0]]))


def some_cycle(chain):
    """A cycle of the chain and its rise, a tuple of two; not always the least cycle."""
    cycle = 1
    rise = 1
    for step in chain:
        own = own_cycle(step)
        # So many cycles of the steps ahead rise by a multiple of this step's own cycle.
        many = own[0] // common_divisor(rise, own[0])
        cycle = cycle * many
        rise = rise * many // own[0] * own[1]
    return (cycle, rise)


def first_ends(chain, many):
    """The ends of the prices from 0 to one less than many, in order."""
    ends = list(range(many))
    for step in chain:
        ends = [after(step, amount) for amount in ends]
    return ends


def least_cycle(ends, rise):
    """The least cycle and its rise, a tuple of two, where as many as the ends are a cycle with that rise."""
    cycle = len(ends)
    # The difference of two cycles is a cycle too, so the least one divides all others: going down by one
    # prime factor at a time, wherever that leaves a cycle, leads to it.
    for prime in prime_factors(cycle):
        if rise % prime == 0 and repeats(ends[:cycle], cycle // prime, rise // prime):
            cycle = cycle // prime
            rise = rise // prime
    return (cycle, rise)


def repeats(ends, part, rise):
    """Whether each of the ends, but for the first part of them, is more by the rise than the one a part ahead."""
    for price in range(part, len(ends)):
        if ends[price] != ends[price - part] + rise:
            return False
    return True
