"""What rounding adds to the unrounded end: the least and the greatest of all prices."""

from roundprice.flat import flatten
from roundprice.walk import unrounded_line
from roundprice.whole import lowest


def astray(chain):
    """The least and the greatest that rounding adds, each a tuple (num, den, price)."""
    flat = flatten(chain)
    line = unrounded_line(chain)
    # A cycle more takes the end and the unrounded end up by the same, so that the prices of the first cycle
    # show all that there is; their fractions go over one denominator.
    added = [flat.ends[price] * line[2] - (price * line[0] + line[1]) for price in range(flat.cycle)]
    return (first_shown(added, min(added), line[2]), first_shown(added, max(added), line[2]))


def first_shown(added, num, den):
    """The fraction num / den in lowest terms and the least price that shows it, a tuple of three."""
    fraction = lowest(num, den)
    return (fraction[0], fraction[1], added.index(num))
