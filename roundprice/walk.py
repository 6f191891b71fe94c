"""Running a chain on a price: its end, its trail, and its unrounded end."""

from roundprice.price import check_price
from roundprice.steps import after, share
from roundprice.whole import lowest


def end_of(chain, price):
    """The end of the price."""
    check_price(price)
    return run(chain, price)


def run(chain, amount):
    """The end of the amount, from 0 on and however great."""
    for step in chain:
        amount = after(step, amount)
    return amount


def trail(chain, price):
    """The price and, behind it, what each step led to."""
    check_price(price)
    amounts = [price]
    for step in chain:
        amounts.append(after(step, amounts[-1]))
    return amounts


def unrounded(chain, price):
    """The end of the price where no step rounds, a tuple (num, den) in lowest terms."""
    check_price(price)
    line = unrounded_line(chain)
    return lowest(price * line[0] + line[1], line[2])


def unrounded_line(chain):
    """The numbers (times, more, den) with which every price has the unrounded end (price * times + more) / den."""
    times = 1
    more = 0
    den = 1
    for step in chain:
        part = share(step)
        pennies = step[3]
        den = den * part[1]
        times = times * part[0]
        more = more * part[0] + pennies * den
    return (times, more, den)
