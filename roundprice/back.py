"""Backwards: the prices that an end came from, and the ends that no price has."""

from roundprice.steps import rounded, share
from roundprice.walk import run


def origin(chain, end):
    """("from", first, last) where some price has the end, else ("none", below, above)."""
    first = first_reaching(chain, end)
    reached = run(chain, first)
    if reached == end:
        return ("from", first, first_reaching(chain, end + 1) - 1)
    below = None
    if first > 0:
        below = run(chain, first - 1)
    return ("none", below, reached)


def missing(chain, low, high):
    """The whole numbers from low to high at which no price ends, in rising order."""
    found = []
    number = low
    while number <= high:
        reached = run(chain, first_reaching(chain, number))
        found.extend(list(range(number, min(reached, high + 1))))
        number = reached + 1
    return found


def first_reaching(chain, end):
    """The least price that ends at this end or beyond it."""
    amount = max(end, 0)
    # A greater amount never leads to less, so that a step reaches what it must just from one amount on: that
    # amount is what the steps ahead of it must reach.
    for step in reversed(chain):
        amount = least_ahead(step, amount)
    return amount


def least_ahead(step, amount):
    """The least amount that the step takes to this amount or beyond it."""
    pennies = step[3]
    way = step[4]
    unit = step[5]
    part = share(step)
    goal = rounded(amount, 1, unit, "up")
    # Halves of pennies, as with near all from half a unit below the goal is led to it.
    bound = 2 * goal
    if way == "near":
        bound = 2 * goal - unit
    if way == "up":
        bound = 2 * goal - 2 * unit
    num = (bound - 2 * pennies) * part[1]
    den = 2 * part[0]
    # With up the bound is a multiple itself, which stays as it is: only what is more is led to the goal.
    if way == "up":
        return max(num // den + 1, 0)
    return max((num + den - 1) // den, 0)
