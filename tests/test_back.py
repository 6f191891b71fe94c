"""Backwards: where an end came from, and the ends that no price has."""

import random
import unittest

from roundprice.back import missing, origin
from roundprice.reader import read
from roundprice.walk import end_of, trail

from told import mixed_chains, steps_of, told_end, told_share

EXAMPLE = "add 1/5; off 3/100 up 5; plus 10"
SMALL = steps_of(((1, 1), (1, 2), (2, 3), (7, 4), (5, 2)), (0, 1, 7), (1, 2, 5))


def told_first(chain, end):
    """The least price that ends at the end or beyond, by a search that halves; a greater price never ends less."""
    beyond = 1
    while told_end(chain, beyond) < end:
        beyond *= 2
    below = -1
    while beyond - below > 1:
        middle = (below + beyond) // 2
        if told_end(chain, middle) < end:
            below = middle
        else:
            beyond = middle
    return beyond


def told_origin(chain, end):
    """Where the end came from by the document's words."""
    first = told_first(chain, end)
    if told_end(chain, first) == end:
        return ("from", first, told_first(chain, end + 1) - 1)
    return ("none", told_end(chain, first - 1) if first else None, told_end(chain, first))


def searched(chain, many):
    """By each end that a price below many has, but for the last one, the least and the greatest price with it."""
    found = {}
    for price in range(many):
        end = trail(chain, price)[-1]
        found[end] = (found.get(end, (price,))[0], price)
    # The stretch of the last end may go on.
    del found[max(found)]
    return found


def told_missing(chain, low, high):
    """The missing ends from low to high, by going through the prices from the first one that reaches low."""
    ends = set()
    price = told_first(chain, low)
    while price == 0 or told_end(chain, price - 1) <= high:
        ends.add(told_end(chain, price))
        price += 1
    return [number for number in range(low, high + 1) if number not in ends]


def told_slope(chain):
    """The chain's shares, multiplied."""
    slope = 1
    for word, n, d, pennies, way, unit in chain:
        slope *= told_share(word, n, d)
    return slope


class Beside(unittest.TestCase):
    def is_proven(self, chain, end):
        """Looks at the prices on both sides of what is told; as no greater price ends less, that proves it."""
        told = origin(chain, end)
        self.assertEqual((type(told), len(told)), (tuple, 3), (chain, end))
        if told[0] == "from":
            word, first, last = told
            self.assertTrue(0 <= first <= last, (chain, end, told))
            self.assertEqual((told_end(chain, first), told_end(chain, last)), (end, end), (chain, end, told))
            self.assertTrue(first == 0 or told_end(chain, first - 1) < end, (chain, end, told))
            self.assertGreater(told_end(chain, last + 1), end, (chain, end, told))
        else:
            word, below, above = told
            self.assertEqual(word, "none")
            price = told_first(chain, end)
            self.assertEqual(told_end(chain, price), above, (chain, end, told))
            self.assertGreater(above, end, (chain, end, told))
            if price == 0:
                self.assertIsNone(below, (chain, end, told))
            else:
                self.assertEqual(told_end(chain, price - 1), below, (chain, end, told))
                self.assertLess(below, end, (chain, end, told))
        return told[0]


class From(Beside):
    def came(self, text, end, first, last):
        self.assertEqual(origin(read(text), end), ("from", first, last), (text, end))

    def test_without_steps(self):
        for end in (0, 1, 7, 10 ** 30, 10 ** 30 + 1, 10 ** 45):
            self.came("", end, end, end)

    def test_the_example(self):
        self.came(EXAMPLE, 130, 99, 102)
        self.came(EXAMPLE, 10, 0, 0)
        self.came(EXAMPLE, 15, 1, 4)

    def test_a_stretch_of_one_price(self):
        self.came("add 1/5", 4, 3, 3)
        self.came("times 100/1", 700, 7, 7)
        self.came("plus 10", 13, 3, 3)
        self.came("times 3/2 down 1", 4, 3, 3)
        self.came("times 3/2 up 1", 5, 3, 3)

    def test_a_stretch_that_begins_at_0(self):
        self.came("down 5", 0, 0, 4)
        self.came("up 5", 0, 0, 0)
        self.came("near 5", 0, 0, 2)
        self.came("near 4", 0, 0, 1)
        self.came("plus 3 up 5", 5, 0, 2)
        self.came("times 1/100 down 100", 0, 0, 9999)
        self.came("off 1/2 plus 3 down 2", 2, 0, 1)
        self.came("plus 1000000000000000000000000000000 down 7", (10 ** 30 // 7) * 7, 0, 6 - 10 ** 30 % 7)

    def test_each_way(self):
        self.came("down 5", 10, 10, 14)
        self.came("up 5", 10, 6, 10)
        self.came("near 5", 10, 8, 12)
        self.came("near 10", 10, 5, 14)
        self.came("times 1/2 down 1", 3, 6, 7)
        self.came("times 1/2 up 1", 3, 5, 6)
        self.came("times 1/2 near 1", 3, 5, 6)
        self.came("times 2/3 near 4", 8, 9, 14)

    def test_each_word(self):
        self.came("times 1/4 down 1", 5, 20, 23)
        self.came("off 3/4 down 1", 5, 20, 23)
        self.came("add 1/4 down 1", 5, 4, 4)
        self.came("off 1/4 plus 2 up 3", 9, 6, 9)

    def test_several_steps(self):
        self.came("down 10; up 4; plus 1", 13, 10, 19)
        self.came("down 10; up 4; plus 1", 21, 20, 29)
        self.came("times 1/10 down 1; times 1/10 down 1; times 1/10 down 1", 7, 7000, 7999)

    def test_above_10_30(self):
        self.came("times 100/1", 10 ** 32, 10 ** 30, 10 ** 30)
        self.came("down 100", 10 ** 45, 10 ** 45, 10 ** 45 + 99)
        self.came("up 100", 10 ** 45, 10 ** 45 - 99, 10 ** 45)
        self.came("near 100", 10 ** 45, 10 ** 45 - 50, 10 ** 45 + 49)
        self.came("times 1/100 down 100", 10 ** 45, 10 ** 47, 10 ** 47 + 9999)
        self.came("times 1/10 plus 1000000000000000000000000000000 down 1", 10 ** 30, 0, 9)
        self.came("times 1/10 plus 1000000000000000000000000000000 down 1", 10 ** 31, 9 * 10 ** 31, 9 * 10 ** 31 + 9)

    def test_every_small_step_by_going_through_the_prices(self):
        for step in SMALL:
            for end, stretch in searched([step], 60).items():
                self.assertEqual(origin([step], end), ("from",) + stretch, (step, end))

    def test_mixed_chains_by_going_through_the_prices(self):
        for chain in mixed_chains(41, 150, 20000):
            for end, stretch in searched(chain, 400).items():
                self.assertEqual(origin(chain, end), ("from",) + stretch, (chain, end))

    def test_mixed_chains_by_a_search(self):
        for chain in mixed_chains(42, 25, 20000):
            for price in (0, 1, 77, 12345, 10 ** 20 + 3, 10 ** 30 - 1, 10 ** 30):
                end = end_of(chain, price)
                told = origin(chain, end)
                self.assertEqual(told, told_origin(chain, end), (chain, end))
                self.assertTrue(told[1] <= price <= told[2], (chain, price))

    def test_great_ends(self):
        source = random.Random(43)
        for chain in mixed_chains(43, 150, 20000):
            slope = told_slope(chain)
            for low, high in ((10 ** 30, 10 ** 31), (10 ** 38, 10 ** 39), (9 * 10 ** 44, 10 ** 45)):
                end = told_end(chain, source.randrange(low, high) * slope.denominator // slope.numerator)
                self.assertEqual(self.is_proven(chain, end), "from", (chain, end))
                self.assertGreater(end, 10 ** 29)

    def test_kinds(self):
        for text, end in ((EXAMPLE, 130), ("", 10 ** 45), ("times 1/100 down 100", 0)):
            told = origin(read(text), end)
            self.assertEqual([type(part) for part in told], [str, int, int])


class NoneHas(Beside):
    def lies(self, text, end, below, above):
        self.assertEqual(origin(read(text), end), ("none", below, above), (text, end))

    def test_between_two_ends(self):
        self.lies("add 1/5", 3, 2, 4)
        self.lies("times 100/1", 101, 100, 200)
        self.lies("times 100/1", 199, 100, 200)
        self.lies("down 5", 11, 10, 15)
        self.lies("up 5", 14, 10, 15)
        self.lies("near 5", 12, 10, 15)
        self.lies(EXAMPLE, 128, 125, 130)
        self.lies("off 1/2 plus 3 down 2", 3, 2, 4)

    def test_below_the_least_end(self):
        self.lies("plus 10", 0, None, 10)
        self.lies("plus 10", 9, None, 10)
        self.lies(EXAMPLE, 0, None, 10)
        self.lies(EXAMPLE, 9, None, 10)
        self.lies("plus 3 up 5", 4, None, 5)
        self.lies("plus 1000000000000000000000000000000", 10 ** 30 - 1, None, 10 ** 30)
        self.lies("plus 1000000000000000000000000000000; times 100/1", 0, None, 10 ** 32)

    def test_just_above_the_least_end(self):
        self.lies("plus 10 up 4", 13, 12, 16)
        self.lies("times 7/1", 1, 0, 7)

    def test_great_ends(self):
        self.lies("times 100/1", 10 ** 45 - 1, 10 ** 45 - 100, 10 ** 45)
        self.lies("up 7", 10 ** 45, 10 ** 45 - 10 ** 45 % 7, 10 ** 45 - 10 ** 45 % 7 + 7)
        self.lies("times 1/100; near 100", 10 ** 45 - 1, 10 ** 45 - 100, 10 ** 45)

    def test_just_beside_an_end(self):
        seen = {"from": 0, "none": 0}
        for step in SMALL:
            ends = [told_end([step], price) for price in range(60)]
            for end in range(ends[-1]):
                told = origin([step], end)
                seen[told[0]] += 1
                if end in ends:
                    self.assertEqual(told[0], "from", (step, end))
                    continue
                below = [less for less in ends if less < end]
                above = min(more for more in ends if more > end)
                self.assertEqual(told, ("none", max(below) if below else None, above), (step, end))
        self.assertGreater(min(seen.values()), 1000)

    def test_mixed_chains(self):
        for chain in mixed_chains(44, 150, 20000):
            ends = sorted({end_of(chain, price) for price in range(300)})
            beside = [end + more for end in ends[:12] for more in (-2, -1, 1, 2) if 0 <= end + more < ends[-1]]
            for end in beside:
                if end not in ends:
                    below = [less for less in ends if less < end]
                    told = ("none", below[-1] if below else None, min(more for more in ends if more > end))
                    self.assertEqual(origin(chain, end), told, (chain, end))

    def test_mixed_chains_at_great_ends(self):
        seen = {"from": 0, "none": 0}
        for chain in mixed_chains(45, 60, 20000):
            for end in (0, 1, 10 ** 30 - 1, 10 ** 30 + 1, 10 ** 40 + 33, 10 ** 45 - 1, 10 ** 45):
                seen[self.is_proven(chain, end)] += 1
        self.assertGreater(min(seen.values()), 50)

    def test_kinds(self):
        self.assertEqual([type(part) for part in origin(read("times 7/1"), 1)], [str, int, int])
        self.assertEqual([type(part) for part in origin(read("plus 7"), 1)], [str, type(None), int])


class Missing(unittest.TestCase):
    def test_none_are_missing(self):
        self.assertEqual(missing([], 0, 200), [])
        self.assertEqual(missing(read("times 1/100"), 0, 200), [])
        self.assertEqual(missing([], 10 ** 45 - 200, 10 ** 45), [])

    def test_by_hand(self):
        self.assertEqual(missing(read("add 1/5"), 0, 20), [3, 9, 15])
        self.assertEqual(missing(read("plus 10"), 0, 12), list(range(10)))
        self.assertEqual(missing(read("down 100"), 99, 201), [99] + list(range(101, 200)) + [201])
        self.assertEqual(missing(read("times 100/1"), 101, 199), list(range(101, 200)))
        self.assertEqual(missing(read("times 2/1"), 10 ** 45 - 4, 10 ** 45), [10 ** 45 - 3, 10 ** 45 - 1])

    def test_low_equal_to_high(self):
        self.assertEqual(missing(read("add 1/5"), 3, 3), [3])
        self.assertEqual(missing(read("add 1/5"), 4, 4), [])
        self.assertEqual(missing(read("plus 1"), 0, 0), [0])
        self.assertEqual(missing([], 0, 0), [])
        self.assertEqual(missing(read("times 3/1"), 10 ** 45, 10 ** 45), [10 ** 45])

    def test_high_less_than_low(self):
        for low, high in ((1, 0), (5, 4), (200, 0), (10 ** 45, 0), (10 ** 45, 10 ** 45 - 1)):
            self.assertEqual(missing(read("times 100/1 plus 7"), low, high), [], (low, high))
            self.assertEqual(missing([], low, high), [], (low, high))

    def test_two_hundred_more(self):
        low = 10 ** 45 - 200
        self.assertEqual(missing(read("plus 1000"), 0, 200), list(range(201)))
        self.assertEqual(missing(read("times 100/1"), low, low + 200),
                         [low + more for more in range(201) if more % 100])

    def test_every_small_step_by_going_through_the_prices(self):
        for step in SMALL[::3]:
            for low, high in ((0, 25), (3, 11), (20, 33)):
                self.assertEqual(missing([step], low, high), told_missing([step], low, high), (step, low, high))

    def test_mixed_chains_by_going_through_the_prices(self):
        some = 0
        # Where the shares are small, very many prices have an end of two hundred.
        chains = [chain for chain in mixed_chains(46, 120, 20000) if told_slope(chain) * 8 >= 1]
        for chain in chains[:60]:
            least = told_end(chain, 0)
            for low, size in ((0, 20), (least, 200), (least + 17, 60), (10 ** 30 + 5, 30), (10 ** 44 + 1, 40)):
                told = missing(chain, low, low + size)
                self.assertEqual(told, told_missing(chain, low, low + size), (chain, low, size))
                some += 0 < len(told) <= size
        self.assertGreater(some, 60)

    def test_the_same_as_origin(self):
        for chain in mixed_chains(47, 60, 20000):
            low = max(0, told_end(chain, 0) - 3)
            told = [number for number in range(low, low + 201) if origin(chain, number)[0] == "none"]
            self.assertEqual(missing(chain, low, low + 200), told, chain)

    def test_kind(self):
        told = missing(read("add 1/5"), 0, 200)
        self.assertIs(type(told), list)
        self.assertEqual({type(number) for number in told}, {int})


class NothingKept(unittest.TestCase):
    def test_chains_that_are_handed_in_stay_as_they_are(self):
        chain = read(EXAMPLE)
        origin(chain, 130)
        origin(chain, 131)
        missing(chain, 0, 200)
        self.assertEqual(chain, read(EXAMPLE))

    def test_a_told_list_is_the_callers_own(self):
        chain = read("add 1/5")
        told = missing(chain, 0, 20)
        told.append(4)
        told[0] = 99
        self.assertEqual(missing(chain, 0, 20), [3, 9, 15])
        told.clear()
        self.assertEqual(missing(chain, 0, 20), [3, 9, 15])

    def test_a_told_list_that_was_empty(self):
        told = missing([], 5, 4)
        told.append(4)
        self.assertEqual(missing([], 5, 4), [])
        self.assertEqual(missing([], 0, 9), [])

    def test_a_chain_changed_behind_a_call(self):
        chain = read("add 1/5; plus 10")
        told = missing(chain, 10, 20)
        came = origin(chain, 14)
        chain.pop()
        self.assertEqual((told, came), ([13, 19], ("from", 3, 3)))
        self.assertEqual(missing(chain, 0, 10), [3, 9])
        self.assertEqual(origin(chain, 4), ("from", 3, 3))


if __name__ == "__main__":
    unittest.main()
