"""The bounds of a price that is handed in."""

from roundprice.errors import BadPrice


def check_price(price):
    """Refuses every whole number that does not lie from 0 to 10 ** 30."""
    if price < 0 or price > 10 ** 30:
        raise BadPrice("a price lies from 0 to 10 ** 30")
