"""Running a chain on a price: its end, its trail, and its unrounded end."""

from roundprice.price import check_price
from roundprice.steps import after, share
from roundprice.whole import lowest


def end_of(chain, price):
    """The end of the price."""
    return trail(chain, price)[-1]


def trail(chain, price):
    """The price and, behind it, what each step led to."""
    check_price(price)
    amounts = [price]
    for step in chain:
        amounts.append(after(step, amounts[-1]))
    return amounts


def unrounded(chain, price):
    """The end of the price where no step rounds, a tuple (num, den) in lowest terms."""
    check_price(price)
    num = price
    den = 1
    for step in chain:
        part = share(step)
        pennies = step[3]
        den = den * part[1]
        num = num * part[0] + pennies * den
    return lowest(num, den)
