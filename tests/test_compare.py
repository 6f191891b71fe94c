"""Comparing chains and exchanging neighbours."""

import random
import unittest
from math import lcm

from roundprice.compare import alike, exchanged, may_exchange, parting
from roundprice.errors import NoPlace
from roundprice.flat import flatten
from roundprice.reader import read
from roundprice.walk import end_of

from told import mixed_chains, told_end, told_product

EXAMPLE = "add 1/5; off 3/100 up 5; plus 10"
SIX = "add 1/5; off 1/3 down 1; times 5/2 plus 1 up 1; plus 30 near 10; off 1/2; times 2/1 up 4"

TOLD_OTHERWISE = (
    ("", "times 1/1"), ("", "near 1"), ("", "plus 0"), ("", "times 100/100 plus 0 down 1"), ("up 1", "down 1"),
    ("add 1/5", "times 6/5"), ("add 1/5", "add 2/10"), ("add 1/5 up 5", "add 20/100 plus 0 up 5"),
    ("off 1/4 down 3", "times 3/4 down 3"), ("off 1/2 up 1", "times 1/2 near 1"), ("off 50/100", "times 1/2 up 1"),
    ("plus 3; plus 4", "plus 7"), ("plus 5; times 2/1", "times 2/1 plus 10"), ("times 2/1; times 1/2", ""),
    ("times 2/1; times 3/1", "times 6/1"), ("up 10; up 5", "up 10"), ("down 6; down 3; down 2", "down 6"),
    ("times 1/2 down 1; times 1/3 down 1", "times 1/6 down 1"), ("add 1/3; times 3/4", ""),
    ("add 1/2 up 1; times 2/3 down 1", "plus 0"), ("times 1/10 down 1; times 1/10 down 1", "times 1/100 down 1"),
    ("plus 2 down 5", "near 5"), ("plus 4 down 5", "up 5"), ("near 10", "plus 5 down 10"),
    ("times 1/10 down 10", "down 10; times 1/10 down 10"),
    ("plus 1000000000000000000000000000000; plus 7", "plus 7; plus 1000000000000000000000000000000"),
)

# Few enough kinds of steps that neighbours may often be exchanged.
PLAIN = ("plus 1", "plus 6", "times 2/1", "times 3/1", "down 2", "down 3", "up 2", "times 1/2 down 1")


def told_parting(one, other, many):
    """The least price below many at which the ends differ, None where there is none."""
    for price in range(many):
        if told_end(one, price) != told_end(other, price):
            return price
    return None


def one_step_changed(chain, source):
    """The chain with one step changed in one of its parts, so that its product of own cycles stays small enough."""
    while True:
        place = source.randrange(len(chain))
        word, n, d, pennies, way, unit = chain[place]
        step = source.choice((
            (word, n, d, pennies + source.choice((1, -1, 50)), way, unit),
            (word, n, d, pennies, source.choice(("down", "up", "near")), unit),
            (word, n, d, pennies, way, source.randrange(1, 7)),
            (word, source.randrange(1, max(2, d)), d, pennies, way, unit),
            (word, n, min(100, d + 1), pennies, way, unit),
        ))
        changed = chain[:place] + [step] + chain[place + 1:]
        if 0 <= step[3] <= 10 ** 30 and (word != "off" or step[1] < step[2]) and told_product(changed) <= 20000:
            return changed


class Compared(unittest.TestCase):
    def part(self, one, other, price):
        """Both chains part at the price, or never where it is None, whichever is told first."""
        for pair in ((one, other), (other, one)):
            told = parting(*pair)
            self.assertEqual(told, price, pair)
            self.assertIs(type(told), type(price), pair)
            self.assertIs(alike(*pair), price is None, pair)

    def texts_part(self, one, other, price):
        self.part(read(one), read(other), price)


class Parting(Compared):
    def test_by_hand(self):
        self.texts_part("", "plus 1", 0)
        self.texts_part("", "times 2/1", 1)
        self.texts_part("", "down 5", 1)
        self.texts_part("down 5", "near 5", 3)
        self.texts_part("down 4", "near 4", 2)
        self.texts_part("up 5", "near 5", 1)
        self.texts_part("add 1/5", "add 1/4", 2)
        self.texts_part("times 1/100 down 1", "times 1/99 down 1", 99)
        self.texts_part("times 1/100 down 100", "", 1)
        self.texts_part(EXAMPLE, "add 1/5; off 3/100 up 5; plus 11", 0)

    def test_the_greater_end_on_either_side(self):
        # Up to 99 the second one ends at one less than the price too.
        self.texts_part("off 1/100 down 1", "off 1/99 down 1", 100)
        self.texts_part("off 1/100 up 1", "off 1/99 up 1", 99)

    def test_just_below_the_sum_of_the_cycles(self):
        for first in (2, 3, 5, 8, 10, 12, 50, 99):
            one = read(f"times 1/{first} down 1")
            other = read(f"plus 1; times 1/{first + 1} down 1")
            self.assertEqual(flatten(one).cycle + flatten(other).cycle, 2 * first + 1)
            self.part(one, other, 2 * first)
        self.texts_part("times 1/2 down 1", "plus 1; times 5/11 down 1", 12)
        self.texts_part("plus 1; times 4/13 down 1", "times 1/3 down 1", 15)
        self.texts_part("", "plus 1; times 9/10 down 1", 10)

    def test_long_cycles(self):
        self.texts_part("times 1/100 down 1; times 1/99 down 1", "plus 100; times 1/100 down 1; times 1/100 down 1",
                        19800)
        self.texts_part("times 1/100 down 100", "plus 1; times 1/100 down 100", 9999)
        self.texts_part("times 1/100 down 100; off 1/2 down 1", "off 1/2 down 1; times 1/100 down 100", 10000)

    def test_ends_that_differ_above_10_30(self):
        self.texts_part("plus 1000000000000000000000000000000", "plus 999999999999999999999999999999", 0)
        self.texts_part("plus 1000000000000000000000000000000 down 5", "plus 1000000000000000000000000000000 up 5", 1)

    def test_one_step_changed(self):
        source = random.Random(51)
        apart = 0
        for chain in mixed_chains(51, 200, 120):
            other = one_step_changed(chain, source)
            many = lcm(told_product(chain), told_product(other))
            if many <= 3000:
                price = told_parting(chain, other, many + 1)
                self.part(chain, other, price)
                apart += price is not None
        self.assertGreater(apart, 50)

    def test_one_step_of_long_chains_changed(self):
        source = random.Random(52)
        for chain in mixed_chains(52, 60, 20000):
            other = one_step_changed(chain, source)
            price = parting(chain, other)
            self.assertEqual(parting(other, chain), price, (chain, other))
            if price is None:
                for far in list(range(200)) + [10 ** 12 + 7, 10 ** 30 - 1, 10 ** 30]:
                    self.assertEqual(end_of(chain, far), end_of(other, far), (chain, other, far))
            else:
                self.assertNotEqual(told_end(chain, price), told_end(other, price), (chain, other))
                for less in range(price):
                    self.assertEqual(end_of(chain, less), end_of(other, less), (chain, other, less))

    def test_drawn_pairs_of_small_chains(self):
        chains = mixed_chains(53, 160, 40) + [[]]
        seen = 0
        for one, other in zip(chains, chains[1:]):
            many = lcm(told_product(one), told_product(other))
            self.part(one, other, told_parting(one, other, many + 1))
            seen += 1
        self.assertEqual(seen, 160)


class Alike(Compared):
    def test_a_chain_and_itself(self):
        for chain in mixed_chains(54, 40, 20000) + [[]]:
            self.part(chain, chain, None)
            self.part(chain, list(chain), None)

    def test_told_otherwise(self):
        for one, other in TOLD_OTHERWISE:
            many = lcm(told_product(read(one)), told_product(read(other)))
            self.assertIsNone(told_parting(read(one), read(other), many + 1), (one, other))
            self.texts_part(one, other, None)

    def test_every_pair_of_small_steps(self):
        steps = [(word, n, d, more, way, unit) for word, n, d in (("times", 1, 1), ("off", 1, 2), ("times", 2, 4))
                 for more in (0, 1, 2) for way in ("down", "up", "near") for unit in (1, 2, 3)]
        same = 0
        for one in steps:
            for other in steps:
                many = lcm(told_product([one]), told_product([other]))
                price = told_parting([one], [other], many + 1)
                self.assertEqual(parting([one], [other]), price, (one, other))
                self.assertIs(alike([one], [other]), price is None, (one, other))
                same += price is None and one != other
        self.assertGreater(same, 100)


class Exchanged(unittest.TestCase):
    def test_by_hand(self):
        one, two, three = read(EXAMPLE)
        self.assertEqual(exchanged([one, two, three], 1), [two, one, three])
        self.assertEqual(exchanged([one, two, three], 2), [one, three, two])
        self.assertEqual(exchanged([one, two], 1), [two, one])

    def test_every_place(self):
        for chain in mixed_chains(55, 60, 20000) + [read(SIX)]:
            for k in range(1, len(chain)):
                told = exchanged(chain, k)
                self.assertIs(type(told), list)
                self.assertEqual(len(told), len(chain))
                for number in range(1, len(chain) + 1):
                    came_from = {k: k + 1, k + 1: k}.get(number, number)
                    self.assertEqual(told[number - 1], chain[came_from - 1], (chain, k, number))

    def test_back_again(self):
        chain = read(SIX)
        for k in range(1, 6):
            self.assertEqual(exchanged(exchanged(chain, k), k), chain)

    def test_two_steps_that_are_the_same(self):
        chain = 2 * read("add 1/5 up 5")
        told = exchanged(chain, 1)
        self.assertEqual(told, chain)
        self.assertIsNot(told, chain)

    def test_the_chain_handed_in_stays_and_the_new_one_is_apart(self):
        for k in range(1, 6):
            chain = read(SIX)
            told = exchanged(chain, k)
            kept = list(told)
            self.assertEqual(chain, read(SIX))
            chain.reverse()
            chain.pop()
            self.assertEqual(told, kept)
            chain = read(SIX)
            told = exchanged(chain, k)
            told.clear()
            self.assertEqual(chain, read(SIX))
            self.assertEqual(exchanged(chain, k), kept)


class MayExchange(unittest.TestCase):
    def test_by_hand(self):
        for text, may in (
            ("plus 3; plus 4", True), ("plus 3; times 2/1", False), ("times 2/1; times 3/1", True),
            ("add 1/5; add 1/5", True), ("down 2; down 4", True), ("down 2; up 4", False), ("down 5; down 7", False),
            ("times 1/2 down 1; times 1/3 down 1", True), ("times 1/2; times 1/3", False), ("plus 10; down 5", True),
            ("plus 1; down 5", False), ("times 1/100 down 100; off 1/2 down 1", False),
            ("near 1; off 3/100 up 5", True),
        ):
            chain = read(text)
            self.assertIs(may_exchange(chain, 1), may, text)
            self.assertIs(may_exchange(chain[::-1], 1), may, text)

    def test_only_these_two_are_exchanged(self):
        chain = read("plus 3; plus 4; times 2/1; times 3/1; down 6; down 4")
        self.assertEqual([may_exchange(chain, k) for k in range(1, 6)], [True, False, True, False, False])

    def test_steps_behind_may_hide_what_differs(self):
        self.assertIs(may_exchange(read("plus 1; times 2/1"), 1), False)
        self.assertIs(may_exchange(read("plus 1; times 2/1; times 2/1 down 4"), 1), False)
        # 2 * p + 2 and 2 * p + 1 part, but not behind a step that adds one and leads down to the even number.
        self.assertIs(may_exchange(read("plus 1; times 2/1; plus 1 down 2"), 1), True)
        self.assertIs(may_exchange(read("plus 1; times 2/1; down 2"), 1), False)

    def test_every_place_by_looking(self):
        seen = {True: 0, False: 0}
        source = random.Random(56)
        plain = [read("; ".join(source.choice(PLAIN) for place in range(source.randrange(2, 7)))) for many in range(60)]
        for chain in mixed_chains(56, 120, 150) + plain:
            for k in range(1, len(chain)):
                other = chain[:k - 1] + [chain[k], chain[k - 1]] + chain[k + 1:]
                # Both chains have the same steps, and so the same product, which is a cycle of both.
                may = told_parting(chain, other, told_product(chain) + 1) is None
                self.assertIs(may_exchange(chain, k), may, (chain, k))
                seen[may] += 1
        self.assertGreater(min(seen.values()), 20)

    def test_the_chain_stays_as_it_is(self):
        chain = read(SIX)
        for k in range(1, 6):
            may_exchange(chain, k)
        self.assertEqual(chain, read(SIX))


class NoPlaces(unittest.TestCase):
    def test_beside_every_chain(self):
        for many in range(7):
            chain = read(SIX)[:many]
            for k in (0, -1, -2, -many, -many - 1, -10 ** 40, many, many + 1, many + 2, 100, 10 ** 40):
                for asked in (exchanged, may_exchange):
                    if 1 <= k < many:
                        asked(chain, k)
                        continue
                    with self.assertRaises(NoPlace, msg=(asked.__name__, many, k)):
                        asked(chain, k)
            self.assertEqual(chain, read(SIX)[:many])

    def test_chains_of_no_and_of_one_step(self):
        for chain in ([], read("add 1/5")):
            for k in (-1, 0, 1, 2):
                for asked in (exchanged, may_exchange):
                    with self.assertRaises(NoPlace, msg=(chain, k)):
                        asked(chain, k)


class NothingKept(unittest.TestCase):
    def test_chains_that_are_handed_in_stay_as_they_are(self):
        one = read(EXAMPLE)
        other = read(SIX)
        parting(one, other)
        alike(one, other)
        self.assertEqual((one, other), (read(EXAMPLE), read(SIX)))

    def test_a_chain_changed_behind_a_call(self):
        one = read(EXAMPLE)
        other = read(EXAMPLE)
        self.assertIsNone(parting(one, other))
        other.pop()
        self.assertEqual(parting(one, other), 0)
        self.assertFalse(alike(one, other))
        one.pop()
        self.assertTrue(alike(one, other))


if __name__ == "__main__":
    unittest.main()
