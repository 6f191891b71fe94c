"""Comparing two chains, and exchanging neighbours of one."""

from roundprice.errors import NoPlace
from roundprice.flat import flatten


def parting(one, other):
    """The least price at which the ends of the two chains differ, None where there is none."""
    first = flatten(one)
    second = flatten(other)
    # Chains that end alike for every price below the sum of their cycles end alike for all.
    for price in range(first.cycle + second.cycle):
        if first.end(price) != second.end(price):
            return price
    return None


def alike(one, other):
    """Whether the two chains end alike for every price."""
    return parting(one, other) is None


def exchanged(chain, k):
    """A new chain in which the steps number k and k + 1 stand in each other's place."""
    if k < 1 or k >= len(chain):
        raise NoPlace("no neighbours stand at that number")
    steps = list(chain)
    steps[k - 1] = chain[k]
    steps[k] = chain[k - 1]
    return steps


def may_exchange(chain, k):
    """Whether the chain stays alike where its steps number k and k + 1 are exchanged."""
    return alike(chain, exchanged(chain, k))
