"""Flat forms: the least cycle, its rise, the first ends, and the end of any price."""

import time
import unittest

from roundprice.errors import BadPrice
from roundprice.flat import Flat, flatten
from roundprice.walk import end_of

from told import mixed_chains, told_end, told_product

EXAMPLE = [("add", 1, 5, 0, "near", 1), ("off", 3, 100, 0, "up", 5), ("times", 1, 1, 10, "near", 1)]
TENTHS = 4 * [("times", 1, 10, 0, "near", 1)]
LONG = (
    TENTHS + [("times", 1, 2, 0, "up", 1), ("times", 1, 1, 7, "down", 1)],
    [("times", 1, 1, 5, "down", 1)] + TENTHS + [("off", 1, 2, 10 ** 30, "up", 1)],
    [("times", 1, 100, 0, "near", 100), ("off", 1, 2, 0, "near", 1)],
    [("times", 7, 100, 3, "near", 100), ("add", 1, 2, 0, "down", 1)],
    [("off", 1, 99, 0, "up", 1), ("off", 1, 100, 0, "near", 1), ("off", 1, 2, 0, "near", 1)],
    [("times", 1, 1, 0, "down", 100), ("times", 1, 1, 0, "up", 100), ("off", 1, 2, 0, "near", 1)],
    [("add", 19, 100, 0, "near", 1), ("times", 1, 1, 49, "near", 100), ("off", 1, 2, 0, "near", 1)],
    [("off", 1, 5, 1, "up", 1), ("add", 2, 5, 0, "near", 1), ("off", 3, 5, 0, "down", 1),
     ("times", 7, 5, 0, "near", 1), ("add", 1, 5, 0, "up", 1), ("times", 5, 6, 0, "near", 1)],
)
FAR = (0, 1, 2, 7, 99, 100, 10 ** 6 + 3, 10 ** 15 + 1, 10 ** 29 + 777, 10 ** 30 - 10 ** 5, 10 ** 30 - 1, 10 ** 30)
BEYOND = (-1, -2, -100, -10 ** 30, -10 ** 61, 10 ** 30 + 1, 10 ** 30 + 2, 10 ** 31, 10 ** 61)


def divisors(number):
    return [part for part in range(1, number + 1) if number % part == 0]


def told_cycle(chain):
    """The least cycle and its rise, by looking at every number; the product of own cycles is one at the latest."""
    product = told_product(chain)
    ends = [told_end(chain, price) for price in range(2 * product)]
    for cycle in range(1, product + 1):
        rises = {ends[price + cycle] - ends[price] for price in range(product)}
        if len(rises) == 1:
            return (cycle, rises.pop())


class Cycles(unittest.TestCase):
    def has(self, chain, cycle, rise):
        flat = flatten(chain)
        self.assertEqual((flat.cycle, flat.rise), (cycle, rise), chain)

    def test_without_steps(self):
        flat = flatten([])
        self.assertEqual((flat.cycle, flat.rise, flat.ends), (1, 1, (0,)))

    def test_one_step(self):
        self.has([("add", 1, 5, 0, "near", 1)], 5, 6)
        self.has([("off", 3, 100, 0, "up", 5)], 500, 485)
        self.has([("times", 1, 1, 10, "near", 1)], 1, 1)
        self.has([("times", 1, 1, 0, "down", 100)], 100, 100)
        self.has([("times", 100, 1, 0, "down", 100)], 1, 100)
        self.has([("times", 1, 100, 0, "up", 100)], 10000, 100)
        self.has([("add", 2, 10, 0, "up", 5)], 25, 30)

    def test_as_great_as_the_product(self):
        self.has(TENTHS, 10000, 1)
        self.has([("times", 1, 2, 0, "near", 1), ("times", 1, 3, 0, "near", 1)], 6, 1)

    def test_smaller_than_the_product_as_the_rise_ahead_goes_round(self):
        # The product is 2500, but 6 more ahead of the second step take only 250 times to come round.
        self.has(EXAMPLE, 1250, 1455)
        self.has([("times", 2, 1, 0, "near", 1), ("times", 1, 2, 0, "near", 1)], 1, 1)
        self.has([("times", 1, 1, 0, "down", 100), ("times", 1, 1, 0, "up", 100)], 100, 100)
        self.has([("times", 6, 1, 0, "near", 1), ("times", 1, 4, 0, "down", 1)], 2, 3)

    def test_smaller_than_the_steps_cycles_tell(self):
        # By the steps' own cycles and rises 3 is a cycle here, and 2; but each price ends at itself.
        self.has([("add", 1, 3, 0, "near", 1), ("times", 3, 4, 0, "near", 1)], 1, 1)
        self.has([("add", 1, 2, 0, "up", 1), ("times", 2, 3, 0, "down", 1)], 1, 1)

    def test_every_pair_of_small_steps_by_looking(self):
        smaller = 0
        steps = [(word, n, d, more, way, unit)
                 for word, n, d in (("times", 1, 1), ("add", 1, 3), ("times", 3, 4), ("off", 1, 2), ("times", 4, 3))
                 for more in (0, 1) for way in ("down", "up", "near") for unit in (1, 2)]
        for one in steps:
            for other in steps[::3]:
                flat = flatten([one, other])
                self.assertEqual((flat.cycle, flat.rise), told_cycle([one, other]), (one, other))
                smaller += flat.cycle < told_product([one, other])
        self.assertGreater(smaller, 300)

    def test_mixed_chains_by_looking(self):
        for chain in mixed_chains(31, 150, 300):
            flat = flatten(chain)
            self.assertEqual((flat.cycle, flat.rise), told_cycle(chain), chain)

    def test_the_cycle_divides_the_product(self):
        for chain in mixed_chains(32, 150, 20000):
            self.assertEqual(told_product(chain) % flatten(chain).cycle, 0, chain)

    def test_the_price_more_by_the_cycle_ends_more_by_the_rise(self):
        for chain in mixed_chains(33, 100, 20000) + [[]]:
            flat = flatten(chain)
            near = [0, 1, 2, flat.cycle // 2, flat.cycle - 1, flat.cycle, flat.cycle + 1, 7 * flat.cycle + 3]
            for price in near + [10 ** 15 + 1, 10 ** 29 + 777, 10 ** 30, 10 ** 45]:
                more = told_end(chain, price + flat.cycle) - told_end(chain, price)
                self.assertEqual(more, flat.rise, (chain, price))

    def test_no_smaller_cycle_does(self):
        # The least cycle divides every other, so that parts of the cycle are all that is to be looked at.
        for chain in mixed_chains(34, 60, 20000):
            flat = flatten(chain)
            ends = [end_of(chain, price) for price in range(2 * flat.cycle)]
            for part in divisors(flat.cycle)[:-1]:
                rises = {ends[price + part] - ends[price] for price in range(flat.cycle)}
                self.assertGreater(len(rises), 1, (chain, part))


class FirstEnds(unittest.TestCase):
    def test_in_order(self):
        self.assertEqual(flatten([("add", 1, 5, 0, "near", 1)]).ends, (0, 1, 2, 4, 5))
        self.assertEqual(flatten([("off", 1, 2, 3, "down", 2)]).ends, (2, 2, 4, 4))
        self.assertEqual(flatten([("times", 1, 1, 10, "near", 1)]).ends, (10,))
        self.assertEqual(flatten([("times", 1, 1, 10 ** 30, "up", 3)]).ends,
                         (10 ** 30 + 2, 10 ** 30 + 2, 10 ** 30 + 2))

    def test_as_many_as_the_cycle(self):
        for chain in mixed_chains(35, 60, 2000) + [[]]:
            flat = flatten(chain)
            self.assertEqual(flat.ends, tuple(told_end(chain, price) for price in range(flat.cycle)), chain)

    def test_kinds(self):
        for chain in ([], EXAMPLE):
            flat = flatten(chain)
            self.assertIsInstance(flat, Flat)
            self.assertEqual((type(flat.cycle), type(flat.rise), type(flat.ends)), (int, int, tuple))
            self.assertEqual({type(end) for end in flat.ends}, {int})


class Ends(unittest.TestCase):
    def test_without_steps(self):
        flat = flatten([])
        for price in FAR:
            self.assertEqual(flat.end(price), price)

    def test_the_example(self):
        flat = flatten(EXAMPLE)
        for price in range(4000):
            self.assertEqual(flat.end(price), end_of(EXAMPLE, price))

    def test_the_same_as_the_chain(self):
        for chain in mixed_chains(36, 100, 20000):
            flat = flatten(chain)
            for price in FAR + (flat.cycle - 1, flat.cycle, flat.cycle + 1, 2 * flat.cycle - 1, 9 * flat.cycle):
                told = flat.end(price)
                self.assertEqual(told, end_of(chain, price), (chain, price))
                self.assertIs(type(told), int)

    def test_ends_beyond_the_bounds_of_a_price(self):
        self.assertEqual(flatten([("times", 100, 1, 1, "near", 1)]).end(10 ** 30), 10 ** 32 + 1)

    def test_prices_beyond_the_bounds(self):
        for chain in ([], EXAMPLE, TENTHS):
            flat = flatten(chain)
            for price in BEYOND:
                with self.assertRaises(BadPrice, msg=(chain, price)):
                    flat.end(price)


class LongChains(unittest.TestCase):
    def test_products_near_20000_in_a_few_seconds(self):
        for chain in LONG:
            self.assertTrue(18000 < told_product(chain) <= 20000, chain)
            begun = time.process_time()
            flat = flatten(chain)
            self.assertLess(time.process_time() - begun, 5, chain)
            for price in range(0, 20000, 97):
                self.assertEqual(flat.end(price), told_end(chain, price), (chain, price))
            for price in FAR:
                self.assertEqual(flat.end(price), told_end(chain, price), (chain, price))

    def test_their_cycles_are_the_least(self):
        for chain in LONG:
            product = told_product(chain)
            ends = [end_of(chain, price) for price in range(2 * product)]
            for part in divisors(product):
                if len({ends[price + part] - ends[price] for price in range(product)}) == 1:
                    break
            flat = flatten(chain)
            self.assertEqual((flat.cycle, flat.rise), (part, ends[part] - ends[0]), chain)


class NothingKept(unittest.TestCase):
    def told(self, flat):
        return (flat.cycle, flat.rise, flat.ends, [flat.end(price) for price in FAR])

    def test_a_chain_that_is_handed_in_stays_as_it_is(self):
        chain = list(EXAMPLE)
        flatten(chain)
        self.assertEqual(chain, EXAMPLE)

    def test_a_chain_changed_behind_the_call(self):
        for change in (list.clear, list.reverse, list.pop):
            chain = list(EXAMPLE)
            flat = flatten(chain)
            kept = self.told(flat)
            change(chain)
            self.assertEqual(self.told(flat), kept)
            self.assertEqual(self.told(flatten(EXAMPLE)), kept)

    def test_two_made_are_apart(self):
        one = flatten(EXAMPLE)
        other = flatten([])
        self.assertIsNot(one, flatten(EXAMPLE))
        self.assertEqual(self.told(one), self.told(flatten(EXAMPLE)))
        self.assertEqual(other.end(99), 99)
        self.assertEqual(one.end(99), 130)


if __name__ == "__main__":
    unittest.main()
