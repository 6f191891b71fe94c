"""The house: its editions, its sales, what it tells by day, and that refusals and askings change nothing."""

import random
import unittest

from roundprice.back import origin
from roundprice.compare import parting
from roundprice.errors import (BadPrice, BadStep, GivenBack, NoEdition, NoSale, NotBehind, Refused, TooLong, TooMany)
from roundprice.house import House
from roundprice.reader import read, write
from roundprice.walk import end_of

from told import told_end

EXAMPLE = "add 1/5; off 3/100 up 5; plus 10"
EXAMPLE_IN_FULL = "add 1/5 plus 0 near 1; off 3/100 plus 0 up 5; times 1/1 plus 10 near 1"
TEXTS = ("", "add 1/5", EXAMPLE, "off 1/4 plus 7 down 5", "times 3/2 up 10; plus 1", "near 100", "times 1/3; times 3/1")
WRONG = (("x", 1), (" ", 1), ("add 1/5; ", 2), ("plus 1; plus 2; off 5/5", 3), ("add 0/5", 1), ("plus 1;plus 2", 1),
         ("; ".join(7 * ["plus 1"]), 7), ("; ".join(6 * ["plus 1"] + ["x"]), 7))
TOO_LONG = ("times 1/100 down 100; times 1/3", "; ".join(6 * ["times 1/10"]))
BEYOND = (-1, -2, -10 ** 30, 10 ** 30 + 1, 10 ** 31, 10 ** 45)
NO_NUMBERS = (0, -1, -2, -200, -10 ** 60, 201, 10 ** 60)


def state(house):
    """All that a house tells of what it holds."""
    sales = []
    while True:
        try:
            sales.append(house.sale(len(sales) + 1))
        except NoSale:
            break
    return (house.editions(), sales, house.standing(), house.till())


class Watched(unittest.TestCase):
    def refuses(self, error, house, deed, *args):
        """The deed is refused with just this class, and leaves the house as it was."""
        held = state(house)
        with self.assertRaises(Refused, msg=(deed, args)) as caught:
            getattr(house, deed)(*args)
        self.assertIs(type(caught.exception), error, (deed, args))
        self.assertEqual(state(house), held, (deed, args))
        return caught.exception

    def leaves(self, house, asked, *args):
        """What is told; the house stays as it was, and asked again it tells the same."""
        held = state(house)
        told = getattr(house, asked)(*args)
        self.assertEqual(state(house), held, (asked, args))
        self.assertEqual(getattr(house, asked)(*args), told, (asked, args))
        return told


def with_editions(*editions):
    house = House()
    for day, text in editions:
        house.issue(day, text)
    return house


def full_of_editions():
    """A house of thirty editions, on the days 10, 20, .. 300."""
    return with_editions(*[(10 * number, f"plus {number}") for number in range(1, 31)])


def full_of_sales():
    """A house of two hundred sales, by an edition of day 5 that adds one."""
    house = with_editions((5, "plus 1"))
    for price in range(200):
        house.sell(5, price)
    return house


class Beginning(Watched):
    def test_no_edition_and_no_sale(self):
        house = House()
        self.assertEqual(state(house), ([], [], [], 0))
        self.assertIs(type(house.till()), int)

    def test_what_a_new_house_refuses(self):
        house = House()
        for day in (0, 1, 10 ** 9):
            for deed, args in (("edition", (day,)), ("chain", (day,)), ("sell", (day, 7)), ("end_on", (day, 7)),
                               ("origin_on", (day, 7)), ("parting_on", (day, day))):
                self.refuses(NoEdition, house, deed, *args)
        for number in NO_NUMBERS + (1, 2):
            self.refuses(NoSale, house, "sale", number)
            self.refuses(NoSale, house, "give_back", number)


class Issuing(Watched):
    def test_numbers_from_1_on(self):
        house = House()
        for number in range(1, 31):
            told = house.issue(3 * number, TEXTS[number % len(TEXTS)])
            self.assertEqual(told, number)
            self.assertIs(type(told), int)

    def test_the_first_day_may_be_any(self):
        for day in (0, 1, 10 ** 9):
            self.assertEqual(House().issue(day, "add 1/5"), 1)
        self.assertEqual(with_editions((0, "")).issue(1, ""), 2)
        self.assertEqual(with_editions((10 ** 9 - 1, "")).issue(10 ** 9, ""), 2)

    def test_the_same_chain_twice(self):
        house = with_editions((1, EXAMPLE), (2, EXAMPLE))
        self.assertEqual(house.editions(), [(1, EXAMPLE_IN_FULL), (2, EXAMPLE_IN_FULL)])

    def test_wrong_texts(self):
        for house in (House(), with_editions((5, "add 1/5")), full_of_editions()):
            for day in (0, 5, 1000):
                for text, at in WRONG:
                    self.assertEqual(self.refuses(BadStep, house, "issue", day, text).at, at, text)
                for text in TOO_LONG:
                    self.refuses(TooLong, house, "issue", day, text)

    def test_the_same_refusals_as_reading(self):
        house = House()
        for text in [text for text, at in WRONG] + list(TOO_LONG):
            with self.assertRaises(Refused) as caught:
                read(text)
            error = self.refuses(type(caught.exception), house, "issue", 1, text)
            self.assertEqual(getattr(error, "at", None), getattr(caught.exception, "at", None))

    def test_days_that_are_not_behind(self):
        house = with_editions((5, "add 1/5"), (9, "plus 1"))
        for day in (9, 8, 6, 5, 4, 0):
            self.refuses(NotBehind, house, "issue", day, "plus 2")
            self.refuses(NotBehind, house, "issue", day, "")
        self.assertEqual(house.issue(10, "plus 2"), 3)

    def test_day_0_again(self):
        self.refuses(NotBehind, with_editions((0, "plus 1")), "issue", 0, "plus 2")

    def test_the_thirty_first(self):
        house = full_of_editions()
        self.assertEqual(len(house.editions()), 30)
        self.refuses(TooMany, house, "issue", 301, "plus 31")
        self.refuses(TooMany, house, "issue", 10 ** 9, "")
        self.refuses(NotBehind, house, "issue", 300, "plus 31")
        self.refuses(NotBehind, house, "issue", 0, "plus 31")
        self.refuses(BadStep, house, "issue", 300, "plus")
        self.refuses(TooLong, house, "issue", 301, TOO_LONG[0])
        self.assertEqual(house.edition(10 ** 9), 30)

    def test_refused_ones_take_no_number_and_no_day(self):
        house = with_editions((5, "plus 1"))
        self.refuses(BadStep, house, "issue", 50, "x")
        self.refuses(TooLong, house, "issue", 60, TOO_LONG[0])
        self.refuses(NotBehind, house, "issue", 5, "plus 2")
        self.assertEqual(house.issue(6, "plus 2"), 2)


class EditionsOfDays(Watched):
    def test_on_ahead_of_and_behind_each_day(self):
        house = with_editions((10, "plus 1"), (20, "plus 2"), (21, "plus 3"), (10 ** 9, "plus 4"))
        for day, number in ((10, 1), (11, 1), (19, 1), (20, 2), (21, 3), (22, 3), (10 ** 9 - 1, 3), (10 ** 9, 4)):
            self.assertEqual(self.leaves(house, "edition", day), number, day)
            self.assertIs(type(house.edition(day)), int)
            self.assertEqual(self.leaves(house, "chain", day), read(f"plus {number}"), day)

    def test_ahead_of_the_first(self):
        house = with_editions((10, "plus 1"), (20, "plus 2"))
        for day in (0, 1, 9):
            for deed, args in (("edition", (day,)), ("chain", (day,)), ("sell", (day, 7)), ("end_on", (day, 7)),
                               ("origin_on", (day, 7)), ("parting_on", (day, day)), ("parting_on", (day, 10)),
                               ("parting_on", (10, day))):
                self.refuses(NoEdition, house, deed, *args)

    def test_all_thirty(self):
        house = full_of_editions()
        for number in range(1, 31):
            for more in (0, 1, 9):
                self.assertEqual(house.edition(10 * number + more), number)
        self.refuses(NoEdition, house, "edition", 9)

    def test_told_in_order_with_full_texts(self):
        house = with_editions((3, ""), (4, "add 2/10 up 5"), (9, EXAMPLE))
        told = self.leaves(house, "editions")
        self.assertEqual(told, [(3, ""), (4, "add 2/10 plus 0 up 5"), (9, EXAMPLE_IN_FULL)])
        self.assertIs(type(told), list)
        for part in told:
            self.assertEqual((type(part), type(part[0]), type(part[1])), (tuple, int, str))

    def test_chains(self):
        for text in TEXTS:
            house = with_editions((7, text))
            told = self.leaves(house, "chain", 8)
            self.assertEqual(told, read(text))
            self.assertIs(type(told), list)
            self.assertEqual(house.editions(), [(7, write(told))])


class Selling(Watched):
    def test_numbers_and_ends(self):
        house = with_editions((10, EXAMPLE), (20, "plus 1"))
        self.assertEqual(house.sell(10, 99), (1, 130))
        self.assertEqual(house.sell(20, 99), (2, 100))
        self.assertEqual(house.sell(19, 0), (3, 10))
        self.assertEqual(house.sell(10 ** 9, 10 ** 30), (4, 10 ** 30 + 1))
        self.assertEqual(house.sell(10, 99), (5, 130))
        told = house.sell(10, 5)
        self.assertEqual((type(told), type(told[0]), type(told[1])), (tuple, int, int))
        self.assertEqual(house.standing(), [1, 2, 3, 4, 5, 6])

    def test_days_in_any_order(self):
        house = with_editions((10, "plus 1"), (20, "plus 2"), (30, "plus 3"))
        days = [30, 10, 25, 20, 10, 999, 11, 30, 29]
        for number, day in enumerate(days, start=1):
            edition = min(day // 10, 3)
            self.assertEqual(house.sell(day, 100), (number, 100 + edition))
            self.assertEqual(house.sale(number), (day, 100, edition, 100 + edition, True))
        self.assertEqual(house.standing(), list(range(1, len(days) + 1)))

    def test_wrong_prices(self):
        for house in (with_editions((10, "plus 1")), full_of_sales()):
            for price in BEYOND:
                for day in (10, 10 ** 9):
                    self.refuses(BadPrice, house, "sell", day, price)

    def test_a_wrong_price_goes_ahead_of_all_else(self):
        for house in (House(), with_editions((10, "plus 1")), full_of_sales()):
            for price in BEYOND:
                self.refuses(BadPrice, house, "sell", 0, price)

    def test_prices_at_the_bounds(self):
        house = with_editions((0, "times 100/1 plus 5"))
        self.assertEqual(house.sell(0, 0), (1, 5))
        self.assertEqual(house.sell(0, 10 ** 30), (2, 10 ** 32 + 5))
        self.assertEqual(house.till(), 10 ** 32 + 10)

    def test_the_two_hundred_and_first(self):
        house = full_of_sales()
        self.assertEqual(house.standing(), list(range(1, 201)))
        self.assertEqual(house.sale(200), (5, 199, 1, 200, True))
        self.refuses(TooMany, house, "sell", 5, 7)
        self.refuses(TooMany, house, "sell", 10 ** 9, 10 ** 30)
        self.refuses(NoEdition, house, "sell", 4, 7)
        self.refuses(BadPrice, house, "sell", 4, -1)
        self.assertEqual(house.end_on(5, 7), 8)

    def test_those_given_back_count(self):
        house = full_of_sales()
        for number in range(1, 201):
            self.assertEqual(house.give_back(number), number)
            self.refuses(TooMany, house, "sell", 5, 7)
        self.assertEqual((house.standing(), house.till()), ([], 0))
        self.refuses(TooMany, house, "sell", 5, 0)

    def test_refused_ones_take_no_number(self):
        house = with_editions((10, "plus 1"))
        self.refuses(NoEdition, house, "sell", 9, 7)
        self.refuses(BadPrice, house, "sell", 10, -1)
        self.assertEqual(house.sell(10, 7), (1, 8))
        self.refuses(BadPrice, house, "sell", 10, 10 ** 30 + 1)
        self.assertEqual(house.sell(10, 8), (2, 9))


class GivingBack(Watched):
    def test_once_and_again(self):
        house = with_editions((10, EXAMPLE))
        house.sell(10, 99)
        house.sell(10, 0)
        told = house.give_back(1)
        self.assertEqual(told, 130)
        self.assertIs(type(told), int)
        for again in range(3):
            self.refuses(GivenBack, house, "give_back", 1)
        self.assertEqual(house.give_back(2), 10)
        self.refuses(GivenBack, house, "give_back", 2)
        self.refuses(GivenBack, house, "give_back", 1)

    def test_an_end_of_nought(self):
        house = with_editions((10, "down 100"))
        house.sell(10, 99)
        self.assertEqual(house.give_back(1), 0)
        self.refuses(GivenBack, house, "give_back", 1)

    def test_numbers_that_no_sale_has(self):
        house = with_editions((10, "plus 1"))
        for many in range(4):
            for number in NO_NUMBERS + (-many, many + 1, many + 2):
                self.refuses(NoSale, house, "give_back", number)
                self.refuses(NoSale, house, "sale", number)
            house.sell(10, many)
        house.give_back(2)
        for number in NO_NUMBERS + (5,):
            self.refuses(NoSale, house, "give_back", number)
            self.refuses(NoSale, house, "sale", number)

    def test_numbers_beside_all_two_hundred(self):
        house = full_of_sales()
        for number in NO_NUMBERS:
            self.refuses(NoSale, house, "give_back", number)
            self.refuses(NoSale, house, "sale", number)

    def test_a_number_is_not_used_again(self):
        house = with_editions((10, "plus 1"))
        house.sell(10, 5)
        house.give_back(1)
        self.assertEqual(house.sell(10, 6), (2, 7))
        self.assertEqual(house.sale(1), (10, 5, 1, 6, False))
        self.assertEqual(house.standing(), [2])


class Sales(Watched):
    def test_the_told_tuple_before_and_behind_giving_back(self):
        house = with_editions((10, EXAMPLE), (20, "plus 1"))
        house.sell(25, 7)
        house.sell(10, 99)
        self.assertEqual(self.leaves(house, "sale", 2), (10, 99, 1, 130, True))
        house.give_back(2)
        self.assertEqual(self.leaves(house, "sale", 2), (10, 99, 1, 130, False))
        self.assertEqual(self.leaves(house, "sale", 1), (25, 7, 2, 8, True))

    def test_kinds(self):
        house = with_editions((10, EXAMPLE))
        house.sell(10, 99)
        for given in (False, True):
            told = house.sale(1)
            self.assertIs(type(told), tuple)
            self.assertEqual([type(part) for part in told], [int, int, int, int, bool])
            if not given:
                house.give_back(1)

    def test_a_later_edition_changes_no_earlier_sale(self):
        house = with_editions((10, "plus 1"))
        # The sale's day lies ahead of the edition that comes later and then holds for that day.
        self.assertEqual(house.sell(50, 100), (1, 101))
        self.assertEqual(house.sell(50, 200), (2, 201))
        self.assertEqual(house.issue(40, "times 2/1"), 2)
        self.assertEqual(house.edition(50), 2)
        self.assertEqual(house.end_on(50, 100), 200)
        self.assertEqual(house.sale(1), (50, 100, 1, 101, True))
        self.assertEqual(house.till(), 302)
        self.assertEqual(house.sell(50, 100), (3, 200))
        self.assertEqual(house.sale(3), (50, 100, 2, 200, True))
        self.assertEqual(house.give_back(1), 101)
        house.issue(50, "times 3/1")
        self.assertEqual(house.sale(1), (50, 100, 1, 101, False))
        self.assertEqual(house.give_back(2), 201)
        self.assertEqual(house.give_back(3), 200)
        self.assertEqual(house.sale(2), (50, 200, 1, 201, False))
        self.assertEqual((house.standing(), house.till()), ([], 0))

    def test_standing_and_till_behind_each_deed(self):
        house = with_editions((10, "plus 1"))
        for price, till in ((10, 11), (20, 32), (0, 33), (10 ** 30, 10 ** 30 + 34)):
            house.sell(10, price)
            self.assertEqual(self.leaves(house, "till"), till)
        self.assertEqual(self.leaves(house, "standing"), [1, 2, 3, 4])
        for number, standing, till in ((2, [1, 3, 4], 10 ** 30 + 13), (4, [1, 3], 12), (1, [3], 1), (3, [], 0)):
            house.give_back(number)
            self.assertEqual(self.leaves(house, "standing"), standing)
            self.assertEqual(self.leaves(house, "till"), till)
        house.sell(10, 4)
        self.assertEqual((house.standing(), house.till()), ([5], 5))

    def test_kinds_of_standing_and_till(self):
        house = full_of_sales()
        house.give_back(3)
        self.assertIs(type(house.standing()), list)
        self.assertEqual({type(number) for number in house.standing()}, {int})
        self.assertIs(type(house.till()), int)


class ByDay(Watched):
    def house(self):
        return with_editions((10, EXAMPLE), (20, "plus 1"), (30, "add 1/5"), (40, "times 6/5"), (50, ""))

    def test_ends(self):
        house = self.house()
        for day in (10, 15, 20, 29, 30, 40, 49, 50, 10 ** 9):
            for price in (0, 1, 99, 12345, 10 ** 30):
                told = self.leaves(house, "end_on", day, price)
                self.assertEqual(told, told_end(house.chain(day), price), (day, price))
                self.assertEqual(told, end_of(house.chain(day), price), (day, price))
                self.assertIs(type(told), int)
        self.assertEqual(house.end_on(19, 99), 130)
        self.assertEqual(house.end_on(20, 99), 100)

    def test_ends_are_those_of_selling_and_giving_back(self):
        house = self.house()
        for day in (10, 20, 30, 40, 50):
            for price in (0, 77, 10 ** 30):
                end = house.end_on(day, price)
                number, sold = house.sell(day, price)
                self.assertEqual((sold, house.give_back(number)), (end, end), (day, price))

    def test_wrong_prices(self):
        for house in (House(), self.house()):
            for day in (0, 9, 10, 55):
                for price in BEYOND:
                    self.refuses(BadPrice, house, "end_on", day, price)
        self.refuses(NoEdition, self.house(), "end_on", 9, 10 ** 30)

    def test_origins(self):
        house = self.house()
        self.assertEqual(self.leaves(house, "origin_on", 10, 130), ("from", 99, 102))
        self.assertEqual(self.leaves(house, "origin_on", 19, 9), ("none", None, 10))
        self.assertEqual(self.leaves(house, "origin_on", 20, 0), ("none", None, 1))
        self.assertEqual(self.leaves(house, "origin_on", 30, 3), ("none", 2, 4))
        self.assertEqual(self.leaves(house, "origin_on", 55, 10 ** 45), ("from", 10 ** 45, 10 ** 45))
        for day in (10, 20, 30, 40, 50):
            for end in (0, 5, 128, 10 ** 30 + 1, 10 ** 45):
                self.assertEqual(house.origin_on(day, end), origin(house.chain(day), end), (day, end))

    def test_origins_ahead_of_the_first_edition(self):
        for end in (0, 130, 10 ** 45):
            self.refuses(NoEdition, self.house(), "origin_on", 9, end)

    def test_partings(self):
        house = self.house()
        for day, other, price in ((10, 10, None), (10, 19, None), (30, 40, None), (39, 45, None), (10, 20, 0),
                                  (20, 50, 0), (30, 50, 3), (45, 60, 3), (50, 51, None)):
            self.assertEqual(self.leaves(house, "parting_on", day, other), price, (day, other))
            self.assertEqual(self.leaves(house, "parting_on", other, day), price, (day, other))
        for day in (10, 20, 30, 40, 50):
            for other in (10, 20, 30, 40, 50):
                self.assertEqual(house.parting_on(day, other), parting(house.chain(day), house.chain(other)))

    def test_partings_ahead_of_the_first_edition(self):
        house = self.house()
        for day, other in ((9, 10), (10, 9), (9, 9), (0, 50), (50, 0)):
            self.refuses(NoEdition, house, "parting_on", day, other)

    def test_a_later_edition_holds_from_its_day_on(self):
        house = with_editions((10, "plus 1"))
        self.assertEqual((house.end_on(30, 5), house.parting_on(10, 30)), (6, None))
        house.issue(30, "plus 2")
        self.assertEqual((house.end_on(29, 5), house.end_on(30, 5), house.parting_on(10, 30)), (6, 7, 0))
        self.assertEqual((house.origin_on(29, 5), house.origin_on(30, 5)), (("from", 4, 4), ("from", 3, 3)))


class Apart(Watched):
    def test_two_houses(self):
        one = House()
        other = House()
        one.issue(10, "plus 1")
        self.assertEqual(state(other), ([], [], [], 0))
        self.refuses(NoEdition, other, "sell", 10, 5)
        other.issue(5, "plus 2")
        self.assertEqual((one.sell(10, 5), other.sell(10, 5)), ((1, 6), (1, 7)))
        one.give_back(1)
        self.assertEqual((one.sale(1), other.sale(1)), ((10, 5, 1, 6, False), (10, 5, 1, 7, True)))
        self.assertEqual((one.till(), other.till()), (0, 7))
        self.assertEqual(state(House()), ([], [], [], 0))

    def test_told_lists_are_the_callers_own(self):
        house = with_editions((10, EXAMPLE), (20, ""))
        house.sell(10, 99)
        house.sell(20, 7)
        for asked, args in (("editions", ()), ("standing", ()), ("chain", (10,)), ("chain", (20,))):
            for change in (list.clear, list.reverse, lambda told: told.append(told), lambda told: told.insert(0, 5)):
                held = state(house)
                told = getattr(house, asked)(*args)
                kept = list(told)
                change(told)
                self.assertEqual(getattr(house, asked)(*args), kept, (asked, args))
                self.assertEqual(state(house), held, (asked, args))
                self.assertEqual((house.end_on(10, 99), house.origin_on(10, 130), house.parting_on(10, 20)),
                                 (130, ("from", 99, 102), 0))

    def test_lists_told_of_a_new_house(self):
        house = House()
        house.editions().append((1, ""))
        house.standing().append(1)
        self.assertEqual(state(house), ([], [], [], 0))

    def test_a_list_told_earlier_does_not_change(self):
        house = with_editions((10, "plus 1"))
        house.sell(10, 5)
        editions = house.editions()
        standing = house.standing()
        house.issue(20, "plus 2")
        house.sell(10, 6)
        house.give_back(1)
        self.assertEqual((editions, standing), ([(10, "times 1/1 plus 1 near 1")], [1]))


class ToldHouse:
    """A house by the document's words, that looks through all it was told each time; its ends are told_end's, but
    reading, origins and partings are the program's own, which other tests hold against the document."""

    def __init__(self):
        self.issues = []
        self.sales = []

    def issue(self, day, text):
        chain = read(text)
        if any(day <= earlier for earlier, kept in self.issues):
            raise NotBehind
        if len(self.issues) == 30:
            raise TooMany
        self.issues.append((day, chain))
        return len(self.issues)

    def edition(self, day):
        numbers = [number for number, (first, chain) in enumerate(self.issues, start=1) if first <= day]
        if not numbers:
            raise NoEdition
        return max(numbers)

    def chain(self, day):
        return list(self.issues[self.edition(day) - 1][1])

    def editions(self):
        return [(day, write(chain)) for day, chain in self.issues]

    def sell(self, day, price):
        end = self.end_on(day, price)
        if len(self.sales) == 200:
            raise TooMany
        self.sales.append([day, price, self.edition(day), end, True])
        return (len(self.sales), end)

    def give_back(self, number):
        if not self.sale(number)[4]:
            raise GivenBack
        self.sales[number - 1][4] = False
        return self.sales[number - 1][3]

    def sale(self, number):
        if number not in range(1, len(self.sales) + 1):
            raise NoSale
        return tuple(self.sales[number - 1])

    def standing(self):
        return [number for number, kept in enumerate(self.sales, start=1) if kept[4]]

    def till(self):
        return sum(kept[3] for kept in self.sales if kept[4])

    def end_on(self, day, price):
        if price not in range(10 ** 30 + 1):
            raise BadPrice
        return told_end(self.chain(day), price)

    def origin_on(self, day, end):
        return origin(self.chain(day), end)

    def parting_on(self, day, other):
        return parting(self.chain(day), self.chain(other))


def drawn_deed(source, day):
    """A deed with its arguments, of all kinds and some of them wrong; editions come for days about this one."""
    price = source.choice((0, 1, 99, source.randrange(10 ** 6), 10 ** 30, 10 ** 30 + 1, -1))
    some = source.randrange(0, 130)
    number = source.randrange(-1, 90)
    text = source.choice(TEXTS + TEXTS + ("x", "plus 1; off 3/3", TOO_LONG[0]))
    return source.choice((
        ("issue", day + source.randrange(-1, 6), text), ("sell", some, price), ("sell", some, price),
        ("sell", some, price), ("give_back", number), ("give_back", number), ("sale", number), ("edition", some),
        ("chain", some), ("end_on", some, price), ("origin_on", some, source.randrange(10 ** 6)),
        ("parting_on", some, source.randrange(0, 130)),
    ))


def answer(house, deed):
    try:
        return getattr(house, deed[0])(*deed[1:])
    except BadStep as error:
        return (BadStep, error.at)
    except Refused as error:
        return type(error)


class Drawn(Watched):
    def test_many_deeds_against_the_words_of_the_document(self):
        seen = set()
        for seed in range(4):
            source = random.Random(seed)
            house = House()
            told = ToldHouse()
            for turn in range(1400):
                deed = drawn_deed(source, turn // 10)
                held = state(told)
                answered = answer(house, deed)
                self.assertEqual(answered, answer(told, deed), (seed, turn, deed))
                self.assertEqual(state(house), state(told), (seed, turn, deed))
                if isinstance(answered, type) or deed[0] not in ("issue", "sell", "give_back"):
                    self.assertEqual(state(house), held, (seed, turn, deed))
                seen.add((deed[0], answered if isinstance(answered, type) else None))
        for deed, error in (("issue", NotBehind), ("issue", TooMany), ("issue", TooLong), ("sell", BadPrice),
                            ("sell", TooMany), ("sell", NoEdition), ("give_back", NoSale),
                            ("give_back", GivenBack), ("sale", NoSale),
                            ("edition", NoEdition), ("chain", NoEdition), ("end_on", BadPrice), ("end_on", NoEdition),
                            ("origin_on", NoEdition), ("parting_on", NoEdition)):
            self.assertIn((deed, error), seen)
        for deed in ("issue", "sell", "give_back", "sale", "edition", "chain", "end_on", "origin_on", "parting_on"):
            self.assertIn((deed, None), seen)


if __name__ == "__main__":
    unittest.main()
