"""Running a chain: ends, trails and unrounded ends."""

import unittest
from math import gcd

from roundprice.errors import BadPrice
from roundprice.walk import end_of, trail, unrounded

from told import mixed_chains, told_end, told_trail, told_unrounded

EXAMPLE = [("add", 1, 5, 0, "near", 1), ("off", 3, 100, 0, "up", 5), ("times", 1, 1, 10, "near", 1)]
SIX = [("add", 1, 5, 0, "near", 1), ("off", 1, 3, 0, "down", 1), ("times", 5, 2, 1, "up", 1),
       ("times", 1, 1, 30, "near", 10), ("off", 1, 2, 0, "near", 1), ("times", 2, 1, 0, "up", 4)]
PRICES = (0, 1, 2, 3, 4, 5, 9, 10, 49, 50, 99, 100, 101, 999, 12345, 10 ** 29 + 7, 10 ** 30 - 1, 10 ** 30)
BEYOND = (-1, -2, -100, -10 ** 30, -10 ** 61, 10 ** 30 + 1, 10 ** 30 + 2, 10 ** 31, 10 ** 45, 10 ** 61)


class Ends(unittest.TestCase):
    def test_the_example(self):
        # 118.8 goes to 119, 115.43 up to 120, and 130 behind the ten.
        self.assertEqual(end_of(EXAMPLE, 99), 130)
        self.assertEqual(end_of(EXAMPLE, 0), 10)

    def test_without_steps(self):
        for price in PRICES:
            self.assertEqual(end_of([], price), price)

    def test_each_step_takes_what_the_one_ahead_led_to(self):
        half_then_more = [("times", 1, 2, 0, "down", 1), ("times", 1, 1, 5, "near", 1)]
        self.assertEqual(end_of(half_then_more, 7), 8)
        self.assertEqual(end_of(half_then_more[::-1], 7), 6)

    def test_each_step_rounds(self):
        # 1.5 goes down to 1, and twice that is 2; rounded at the end alone it would be 3.
        self.assertEqual(end_of([("times", 1, 2, 0, "down", 1), ("times", 2, 1, 0, "near", 1)], 3), 2)

    def test_the_greatest_price(self):
        self.assertEqual(end_of([("add", 1, 3, 0, "up", 1)], 10 ** 30), (4 * 10 ** 30 + 2) // 3)
        self.assertEqual(end_of(6 * [("times", 100, 1, 10 ** 30, "up", 100)], 10 ** 30),
                         10 ** 42 + 10 ** 30 * (1 + 10 ** 2 + 10 ** 4 + 10 ** 6 + 10 ** 8 + 10 ** 10))

    def test_by_the_words_of_the_document(self):
        for chain in mixed_chains(21, 150, 20000):
            for price in PRICES:
                told = end_of(chain, price)
                self.assertEqual(told, told_end(chain, price), (chain, price))
                self.assertIs(type(told), int)


class Trails(unittest.TestCase):
    def test_the_example(self):
        self.assertEqual(trail(EXAMPLE, 99), [99, 119, 120, 130])
        self.assertEqual(trail(EXAMPLE, 0), [0, 0, 0, 10])

    def test_without_steps(self):
        for price in PRICES:
            self.assertEqual(trail([], price), [price])

    def test_six_steps(self):
        self.assertEqual(trail(SIX, 99), [99, 119, 79, 199, 230, 115, 232])
        self.assertEqual(trail(SIX, 0), [0, 0, 0, 1, 30, 15, 32])
        self.assertEqual(trail(6 * [("times", 1, 1, 1, "near", 1)], 10 ** 30),
                         [10 ** 30 + more for more in range(7)])

    def test_by_the_words_of_the_document(self):
        for chain in mixed_chains(22, 150, 20000):
            for price in PRICES:
                told = trail(chain, price)
                self.assertEqual(told, told_trail(chain, price), (chain, price))
                self.assertEqual(len(told), len(chain) + 1)
                self.assertEqual(told[-1], end_of(chain, price))

    def test_kind(self):
        told = trail(SIX, 99)
        self.assertIs(type(told), list)
        self.assertEqual({type(amount) for amount in told}, {int})


class UnroundedEnds(unittest.TestCase):
    def test_whole(self):
        self.assertEqual(unrounded([], 7), (7, 1))
        self.assertEqual(unrounded([("add", 1, 5, 0, "up", 100)], 50), (60, 1))
        self.assertEqual(unrounded([("times", 2, 4, 3, "up", 100)], 10 ** 30), (5 * 10 ** 29 + 3, 1))

    def test_nought(self):
        self.assertEqual(unrounded([], 0), (0, 1))
        self.assertEqual(unrounded([("off", 3, 100, 0, "up", 5)], 0), (0, 1))
        self.assertEqual(unrounded(6 * [("times", 1, 7, 0, "near", 1)], 0), (0, 1))

    def test_not_whole(self):
        # 99 times 6/5 times 97/100, and ten.
        self.assertEqual(unrounded(EXAMPLE, 99), (31309, 250))
        self.assertEqual(unrounded([("times", 2, 6, 0, "near", 1)], 4), (4, 3))
        self.assertEqual(unrounded([("times", 1, 100, 1, "near", 1)], 50), (3, 2))

    def test_whole_again_behind_a_fraction(self):
        self.assertEqual(unrounded([("times", 1, 3, 0, "near", 1), ("times", 3, 1, 0, "near", 1)], 5), (5, 1))
        self.assertEqual(unrounded([("times", 1, 3, 1, "up", 1), ("times", 3, 1, 0, "up", 100)], 5), (8, 1))

    def test_pennies_of_an_earlier_step_are_shared_too(self):
        self.assertEqual(unrounded([("times", 1, 1, 5, "near", 1), ("times", 1, 2, 0, "near", 1)], 2), (7, 2))
        self.assertEqual(unrounded([("times", 1, 2, 0, "near", 1), ("times", 1, 1, 5, "near", 1)], 3), (13, 2))

    def test_ways_and_units_change_nothing(self):
        for chain in mixed_chains(23, 30, 20000):
            plain = [step[:4] + ("near", 1) for step in chain]
            self.assertEqual(unrounded(chain, 12345), unrounded(plain, 12345), chain)

    def test_by_the_words_of_the_document(self):
        for chain in mixed_chains(24, 150, 20000):
            for price in PRICES:
                told = unrounded(chain, price)
                value = told_unrounded(chain, price)
                self.assertEqual(told, (value.numerator, value.denominator), (chain, price))
                self.assertIs(type(told), tuple)
                self.assertEqual([type(number) for number in told], [int, int])
                self.assertEqual(gcd(told[0], told[1]), 1)


class Prices(unittest.TestCase):
    def test_beyond_the_bounds(self):
        for chain in ([], EXAMPLE, SIX, [("times", 1, 100, 0, "down", 100)]):
            for asked in (end_of, trail, unrounded):
                for price in BEYOND:
                    with self.assertRaises(BadPrice, msg=(asked.__name__, chain, price)):
                        asked(chain, price)

    def test_at_the_bounds(self):
        for chain in ([], EXAMPLE, SIX):
            for price in (0, 10 ** 30):
                value = told_unrounded(chain, price)
                self.assertEqual(end_of(chain, price), told_end(chain, price))
                self.assertEqual(trail(chain, price), told_trail(chain, price))
                self.assertEqual(unrounded(chain, price), (value.numerator, value.denominator))

    def test_ends_beyond_the_bounds_of_a_price(self):
        self.assertEqual(end_of([("times", 100, 1, 0, "near", 1)], 10 ** 30), 10 ** 32)
        self.assertEqual(trail([("times", 100, 1, 1, "near", 1), ("times", 1, 1, 1, "near", 1)], 10 ** 30),
                         [10 ** 30, 10 ** 32 + 1, 10 ** 32 + 2])
        self.assertEqual(unrounded([("times", 100, 1, 0, "near", 1)], 10 ** 30), (10 ** 32, 1))


class NothingKept(unittest.TestCase):
    def test_a_chain_that_is_handed_in_stays_as_it_is(self):
        for asked in (end_of, trail, unrounded):
            chain = list(SIX)
            asked(chain, 99)
            self.assertEqual(chain, SIX)

    def test_a_chain_changed_behind_a_call(self):
        chain = list(EXAMPLE)
        told = trail(chain, 99)
        chain.pop()
        self.assertEqual(told, [99, 119, 120, 130])
        self.assertEqual(trail(chain, 99), [99, 119, 120])
        self.assertEqual(end_of(chain, 99), 120)
        self.assertEqual(unrounded(chain, 0), (0, 1))

    def test_a_trail_that_is_told_is_the_callers_own(self):
        for chain in ([], EXAMPLE):
            told = trail(chain, 99)
            kept = list(told)
            told.append(1)
            told[0] = 5
            self.assertEqual(trail(chain, 99), kept)
            self.assertEqual(end_of(chain, 99), kept[-1])


if __name__ == "__main__":
    unittest.main()
