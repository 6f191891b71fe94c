"""The house: editions of its chain by day, and the sales that are booked and given back by them."""

from roundprice.back import origin
from roundprice.compare import parting
from roundprice.errors import GivenBack, NoEdition, NoSale, NotBehind, TooMany
from roundprice.price import check_price
from roundprice.reader import read, write
from roundprice.walk import end_of

MOST_EDITIONS = 30
MOST_SALES = 200


class House:
    """Keeps the editions as tuples (day, chain), the sales as tuples (day, price, edition, end)."""

    def __init__(self):
        self.issued = []
        self.booked = []
        # The numbers of the sales that were given back.
        self.returned = {}

    def issue(self, day, text):
        """Issues the text's chain from the day on; the edition's number."""
        steps = read(text)
        if len(self.issued) > 0 and day <= self.issued[-1][0]:
            raise NotBehind("the day is not greater than the last edition's")
        if len(self.issued) >= MOST_EDITIONS:
            raise TooMany("a house has at most 30 editions")
        self.issued.append((day, steps))
        return len(self.issued)

    def edition(self, day):
        """The number of the day's edition."""
        number = len(self.issued)
        while number > 0 and self.issued[number - 1][0] > day:
            number = number - 1
        if number == 0:
            raise NoEdition("no edition holds for that day")
        return number

    def chain(self, day):
        """The chain of the day's edition."""
        return list(self.issued[self.edition(day) - 1][1])

    def editions(self):
        """Each edition in its order, a tuple of its day and its chain's text in full form."""
        return [(kept[0], write(kept[1])) for kept in self.issued]

    def sell(self, day, price):
        """Books a sale; a tuple of its number and its end."""
        end = self.end_on(day, price)
        if len(self.booked) >= MOST_SALES:
            raise TooMany("a house books at most 200 sales")
        self.booked.append((day, price, self.edition(day), end))
        return (len(self.booked), end)

    def give_back(self, number):
        """Gives the sale back; the pennies given back."""
        end = self.booking(number)[3]
        if number in self.returned:
            raise GivenBack("that sale was given back before")
        self.returned[number] = True
        return end

    def sale(self, number):
        """The sale as a tuple (day, price, edition, end, stands)."""
        return self.booking(number) + (number not in self.returned,)

    def booking(self, number):
        """The sale as it was booked, a tuple (day, price, edition, end)."""
        if number < 1 or number > len(self.booked):
            raise NoSale("no sale has that number")
        return self.booked[number - 1]

    def standing(self):
        """The numbers of the sales that stand, in rising order."""
        return [number for number in range(1, len(self.booked) + 1) if number not in self.returned]

    def till(self):
        """The sum of the ends of all sales that stand."""
        return sum([self.booking(number)[3] for number in self.standing()])

    def end_on(self, day, price):
        """The end of the price by the day's edition."""
        # A wrong price is refused ahead of a day without edition.
        check_price(price)
        return end_of(self.chain(day), price)

    def origin_on(self, day, end):
        """Where the end came from by the day's edition."""
        return origin(self.chain(day), end)

    def parting_on(self, day, other):
        """The least price at which the ends by the two days' editions differ, None where there is none."""
        return parting(self.chain(day), self.chain(other))
