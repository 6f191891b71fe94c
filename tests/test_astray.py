"""What rounding adds: the least and the greatest fraction of all prices, and the least price that shows each."""

import time
import unittest
from fractions import Fraction
from math import gcd

from roundprice.astray import astray
from roundprice.reader import read
from roundprice.walk import end_of, unrounded

from told import mixed_chains, steps_of, told_end, told_product, told_unrounded

EXAMPLE = "add 1/5; off 3/100 up 5; plus 10"
LONG = (
    "times 1/10; times 1/10; times 1/10; times 1/10; times 1/2 up 1; plus 7 down 1",
    "times 1/100 near 100; off 1/2",
    "off 1/99 up 1; off 1/100; off 1/2",
    "add 19/100; plus 49 near 100; off 1/2",
)


def told_added(chain, price):
    """What rounding adds for the price by the document's words, as a Fraction."""
    return told_end(chain, price) - told_unrounded(chain, price)


def told_astray(added):
    """Both tuples from what rounding adds for each price from 0 on, in order."""
    return tuple((value.numerator, value.denominator, added.index(value)) for value in (min(added), max(added)))


class ByHand(unittest.TestCase):
    def shows(self, text, least, greatest):
        self.assertEqual(astray(read(text)), (least, greatest), text)

    def test_nought(self):
        for text in ("", "plus 7", "times 3/1", "times 5/1 plus 10 up 5", "down 1; up 1", "times 2/1; times 1/2",
                     "plus 1000000000000000000000000000000"):
            self.shows(text, (0, 1, 0), (0, 1, 0))

    def test_one_step(self):
        self.shows("times 1/2 down 1", (-1, 2, 1), (0, 1, 0))
        self.shows("times 1/2 up 1", (0, 1, 0), (1, 2, 1))
        self.shows("times 1/2 near 1", (0, 1, 0), (1, 2, 1))
        self.shows("down 5", (-4, 1, 4), (0, 1, 0))
        self.shows("up 5", (0, 1, 0), (4, 1, 1))
        self.shows("near 5", (-2, 1, 2), (2, 1, 3))
        self.shows("near 4", (-1, 1, 1), (2, 1, 2))
        self.shows("add 1/3", (-1, 3, 1), (1, 3, 2))

    def test_pennies_shift_the_price_that_shows_it(self):
        self.shows("plus 2 down 5", (-4, 1, 2), (0, 1, 3))
        self.shows("plus 2 up 5", (0, 1, 3), (4, 1, 4))
        self.shows("plus 4 down 5", (-4, 1, 0), (0, 1, 1))

    def test_always_below_nought(self):
        self.shows("times 2/1 plus 1 down 2", (-1, 1, 0), (-1, 1, 0))
        self.shows("times 2/1 plus 1 down 4", (-3, 1, 1), (-1, 1, 0))
        self.shows("times 2/1 plus 1 down 2; times 3/1; times 1/3 plus 5", (-1, 1, 0), (-1, 1, 0))

    def test_always_above_nought(self):
        self.shows("times 2/1 plus 1 up 2", (1, 1, 0), (1, 1, 0))
        self.shows("times 4/1 plus 1 near 2", (1, 1, 0), (1, 1, 0))

    def test_lowest_terms(self):
        self.shows("times 2/4 down 1", (-1, 2, 1), (0, 1, 0))
        self.shows("times 6/8 down 1", (-3, 4, 1), (0, 1, 0))
        self.shows("times 1/6 down 1; times 2/1", (-5, 3, 5), (0, 1, 0))

    def test_each_step_adds_its_own(self):
        # 11 is led up to 20, 7 more are 27, and these are led up to 40: 22 more than 18.
        self.shows("up 10; plus 7; up 20", (3, 1, 10), (22, 1, 11))
        self.shows("times 1/2 up 1; times 100/1", (0, 1, 0), (50, 1, 1))
        self.shows("down 10; times 1/100 down 1", (-99, 100, 99), (0, 1, 0))


class ByLooking(unittest.TestCase):
    def test_every_small_step(self):
        for step in steps_of(((1, 1), (1, 2), (2, 3), (7, 4), (4, 6)), (0, 1, 7, 10 ** 30), (1, 2, 5)):
            added = [told_added([step], price) for price in range(told_product([step]))]
            self.assertEqual(astray([step]), told_astray(added), step)

    def test_mixed_chains(self):
        seen = {"least below": 0, "greatest below": 0, "least above": 0, "late": 0}
        for chain in mixed_chains(61, 200, 500):
            added = [told_added(chain, price) for price in range(told_product(chain))]
            told = astray(chain)
            self.assertEqual(told, told_astray(added), chain)
            seen["least below"] += told[0][0] < 0
            seen["greatest below"] += told[1][0] < 0
            seen["least above"] += told[0][0] > 0
            seen["late"] += min(told[0][2], told[1][2]) > 5
        for kind in seen:
            self.assertGreater(seen[kind], 3, kind)

    def test_long_chains_in_a_few_seconds(self):
        for text in LONG:
            chain = read(text)
            product = told_product(chain)
            self.assertTrue(18000 < product <= 20000, text)
            begun = time.process_time()
            told = astray(chain)
            self.assertLess(time.process_time() - begun, 5, text)
            added = [end_of(chain, price) - Fraction(*unrounded(chain, price)) for price in range(product)]
            self.assertEqual(told, told_astray(added), text)

    def test_no_price_however_great_shows_more(self):
        for chain in mixed_chains(62, 60, 20000):
            least, greatest = astray(chain)
            for price in (10 ** 9 + 7, 10 ** 30 - 1, 10 ** 30, 10 ** 45 + 11):
                added = told_added(chain, price)
                self.assertLessEqual(Fraction(least[0], least[1]), added, (chain, price))
                self.assertGreaterEqual(Fraction(greatest[0], greatest[1]), added, (chain, price))
            for num, den, price in (least, greatest):
                self.assertEqual(Fraction(num, den), told_added(chain, price), (chain, price))


class Kinds(unittest.TestCase):
    def test_tuples_of_whole_numbers_in_lowest_terms(self):
        for chain in mixed_chains(63, 60, 20000) + [[], read(EXAMPLE)]:
            told = astray(chain)
            self.assertEqual((type(told), len(told)), (tuple, 2))
            for part in told:
                self.assertIs(type(part), tuple)
                self.assertEqual([type(number) for number in part], [int, int, int])
                self.assertGreaterEqual(part[1], 1)
                self.assertEqual(gcd(part[0], part[1]), 1)
                self.assertGreaterEqual(part[2], 0)

    def test_the_chain_stays_as_it_is(self):
        chain = read(EXAMPLE)
        told = astray(chain)
        self.assertEqual(chain, read(EXAMPLE))
        chain.pop()
        chain.pop()
        self.assertEqual(astray(read(EXAMPLE)), told)
        self.assertEqual(astray(chain), ((-2, 5, 2), (2, 5, 3)))


if __name__ == "__main__":
    unittest.main()
