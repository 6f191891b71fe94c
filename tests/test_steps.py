"""Steps: the share, the rounding, what a step leads to, and its own cycle."""

import unittest
from fractions import Fraction
from math import gcd

from roundprice.steps import WAYS, WORDS, after, own_cycle, rounded, share

from told import steps_of, told_after, told_rounded, told_share

NUMBERS = (0, 1, 2, 3, 4, 5, 7, 12, 49, 50, 51, 99, 100, 101, 149, 150, 151, 12345, 10 ** 30, 10 ** 61 + 49,
           10 ** 61 + 50, 7 ** 90)
PENNIES = (0, 1, 49, 50, 99, 100, 1234567, 10 ** 30 - 1, 10 ** 30)
AMOUNTS = (0, 1, 2, 3, 49, 50, 51, 99, 100, 101, 1999, 10 ** 30, 10 ** 30 + 1, 10 ** 45 - 1, 3 ** 140)
SHARES = ((1, 1), (1, 2), (2, 4), (1, 3), (2, 3), (4, 6), (3, 100), (50, 100), (99, 100), (7, 12), (19, 20))


class Names(unittest.TestCase):
    def test_words_and_ways(self):
        self.assertEqual(WORDS, ("times", "add", "off"))
        self.assertEqual(WAYS, ("down", "up", "near"))
        self.assertIs(type(WORDS), tuple)
        self.assertIs(type(WAYS), tuple)


class Share(unittest.TestCase):
    def test_each_word(self):
        self.assertEqual(share(("times", 3, 5, 0, "near", 1)), (3, 5))
        self.assertEqual(share(("add", 1, 5, 0, "near", 1)), (6, 5))
        self.assertEqual(share(("off", 3, 100, 0, "near", 1)), (97, 100))

    def test_not_in_lowest_terms(self):
        self.assertEqual(share(("times", 2, 10, 0, "near", 1)), (1, 5))
        self.assertEqual(share(("times", 100, 8, 0, "near", 1)), (25, 2))
        self.assertEqual(share(("add", 2, 10, 0, "up", 5)), (6, 5))
        self.assertEqual(share(("off", 20, 100, 0, "down", 1)), (4, 5))

    def test_n_equal_to_d(self):
        for d in (1, 2, 6, 100):
            self.assertEqual(share(("times", d, d, 0, "near", 1)), (1, 1))
            self.assertEqual(share(("add", d, d, 0, "near", 1)), (2, 1))

    def test_off_with_n_one_less_than_d(self):
        for d in (2, 3, 50, 100):
            self.assertEqual(share(("off", d - 1, d, 0, "near", 1)), (1, d))

    def test_pennies_way_and_unit_change_nothing(self):
        for step in steps_of(((4, 6),), PENNIES, (1, 2, 100)):
            value = told_share(step[0], 4, 6)
            self.assertEqual(share(step), (value.numerator, value.denominator), step)

    def test_every_n_and_d(self):
        for word in WORDS:
            for d in range(1, 101):
                for n in range(1, d if word == "off" else 101):
                    value = told_share(word, n, d)
                    told = share((word, n, d, 0, "near", 1))
                    if told != (value.numerator, value.denominator):
                        self.fail((word, n, d, told))

    def test_kind(self):
        for step in steps_of(SHARES, (0,), (1,)):
            told = share(step)
            self.assertIs(type(told), tuple)
            self.assertEqual([type(number) for number in told], [int, int])
            self.assertEqual(gcd(told[0], told[1]), 1)


class Rounded(unittest.TestCase):
    def test_each_way(self):
        self.assertEqual([rounded(7, 3, 1, way) for way in WAYS], [2, 3, 2])
        self.assertEqual([rounded(8, 3, 1, way) for way in WAYS], [2, 3, 3])
        self.assertEqual([rounded(1234, 1, 100, way) for way in WAYS], [1200, 1300, 1200])
        self.assertEqual([rounded(1270, 1, 100, way) for way in WAYS], [1200, 1300, 1300])

    def test_a_multiple_stays(self):
        for way in WAYS:
            for unit in (1, 5, 7, 100):
                for many in (0, 1, 2, 3, 10 ** 61 + 3):
                    for den in (1, 2, 9, 10 ** 62):
                        told = rounded(many * unit * den, den, unit, way)
                        self.assertEqual(told, many * unit, (many, den, unit, way))

    def test_just_below_and_just_above_a_multiple(self):
        for unit in (1, 3, 100):
            for den in (3, 10 ** 70):
                for many in (1, 2, 10 ** 62):
                    edge = many * unit * den
                    low, here, high = (many - 1) * unit, many * unit, (many + 1) * unit
                    self.assertEqual([rounded(edge - 1, den, unit, way) for way in WAYS], [low, here, here])
                    self.assertEqual([rounded(edge + 1, den, unit, way) for way in WAYS], [here, high, here])

    def test_half_way_goes_to_the_greater(self):
        self.assertEqual(rounded(1, 2, 1, "near"), 1)
        self.assertEqual(rounded(3, 2, 1, "near"), 2)
        self.assertEqual(rounded(5, 2, 1, "near"), 3)
        self.assertEqual(rounded(50, 1, 100, "near"), 100)
        self.assertEqual(rounded(150, 1, 100, "near"), 200)
        self.assertEqual(rounded(250, 1, 100, "near"), 300)
        self.assertEqual(rounded(5, 2, 5, "near"), 5)
        self.assertEqual(rounded(10 ** 80 + 50, 1, 100, "near"), 10 ** 80 + 100)

    def test_just_below_and_just_above_half_way(self):
        self.assertEqual(rounded(49, 1, 100, "near"), 0)
        self.assertEqual(rounded(51, 1, 100, "near"), 100)
        self.assertEqual(rounded(1, 1, 3, "near"), 0)
        self.assertEqual(rounded(2, 1, 3, "near"), 3)
        den = 2 * 10 ** 70
        for unit in (1, 3, 100):
            half = (2 * 10 ** 65 + 1) * unit * den // 2
            low, high = 10 ** 65 * unit, (10 ** 65 + 1) * unit
            self.assertEqual([rounded(half + k, den, unit, "near") for k in (-1, 0, 1)], [low, high, high])
            self.assertEqual([rounded(half + k, den, unit, "down") for k in (-1, 0, 1)], [low] * 3)
            self.assertEqual([rounded(half + k, den, unit, "up") for k in (-1, 0, 1)], [high] * 3)

    def test_nought(self):
        for way in WAYS:
            for unit in (1, 2, 100):
                for den in (1, 2, 10 ** 61):
                    self.assertEqual(rounded(0, den, unit, way), 0)

    def test_terms_do_not_matter(self):
        for way in WAYS:
            for unit in (1, 2, 100):
                for num, den in ((1, 2), (7, 3), (5, 1), (150, 1), (10 ** 61 + 1, 2)):
                    for times in (2, 3, 10, 10 ** 61):
                        told = rounded(num * times, den * times, unit, way)
                        self.assertEqual(told, rounded(num, den, unit, way), (num, den, times, unit, way))

    def test_by_the_words_of_the_document(self):
        for num in NUMBERS:
            for den in NUMBERS[1:]:
                for unit in (1, 2, 3, 5, 99, 100):
                    for way in WAYS:
                        told = rounded(num, den, unit, way)
                        self.assertEqual(told, told_rounded(Fraction(num, den), unit, way), (num, den, unit, way))
                        self.assertIs(type(told), int)

    def test_every_small_fraction(self):
        for num in range(60):
            for den in range(1, 13):
                for unit in range(1, 8):
                    for way in WAYS:
                        told = rounded(num, den, unit, way)
                        self.assertEqual(told, told_rounded(Fraction(num, den), unit, way), (num, den, unit, way))


class After(unittest.TestCase):
    def test_each_word(self):
        self.assertEqual(after(("times", 2, 3, 0, "near", 1), 100), 67)
        self.assertEqual(after(("add", 1, 5, 0, "near", 1), 99), 119)
        self.assertEqual(after(("off", 3, 100, 0, "up", 5), 119), 120)
        self.assertEqual(after(("times", 1, 1, 10, "near", 1), 120), 130)

    def test_each_way(self):
        self.assertEqual([after(("times", 1, 2, 0, way, 1), 5) for way in WAYS], [2, 3, 3])
        self.assertEqual([after(("times", 1, 3, 0, way, 1), 4) for way in WAYS], [1, 2, 1])
        self.assertEqual([after(("add", 1, 10, 7, way, 100), 130) for way in WAYS], [100, 200, 200])
        self.assertEqual([after(("off", 1, 10, 7, way, 100), 158) for way in WAYS], [100, 200, 100])

    def test_rounded_once(self):
        # 1.5 and 1 penny are 2.5; a share rounded ahead of the pennies would leave 0 and 1.
        self.assertEqual(after(("times", 1, 2, 1, "near", 5), 3), 5)
        # 0.5 lies nearer to 0 than to 2; rounded to whole pennies on the way it would go to 2.
        self.assertEqual(after(("times", 1, 2, 0, "near", 2), 1), 0)
        # 49.5 and 50 pennies lie below 100; rounded on the way they would reach it.
        self.assertEqual(after(("times", 1, 2, 50, "down", 100), 99), 0)
        # 0.5 and 100 pennies lie above 100; rounded on the way they would not.
        self.assertEqual(after(("times", 1, 2, 100, "up", 100), 1), 200)

    def test_pennies_stand_behind_the_share(self):
        self.assertEqual(after(("times", 1, 2, 10, "near", 1), 20), 20)
        self.assertEqual(after(("off", 1, 2, 10, "near", 1), 20), 20)
        self.assertEqual(after(("add", 1, 2, 10, "near", 1), 20), 40)

    def test_amount_nought(self):
        for step in steps_of(SHARES, (0,), (1, 5, 100)):
            self.assertEqual(after(step, 0), 0, step)
        for way, told in zip(WAYS, (100, 200, 200)):
            self.assertEqual(after(("times", 1, 3, 150, way, 100), 0), told)
        self.assertEqual(after(("off", 1, 3, 10 ** 30, "near", 1), 0), 10 ** 30)

    def test_great_amounts_are_reckoned_exactly(self):
        great = 3 * 10 ** 60
        self.assertEqual([after(("times", 1, 3, 0, way, 1), great + 1) for way in WAYS],
                         [10 ** 60, 10 ** 60 + 1, 10 ** 60])
        self.assertEqual([after(("times", 1, 3, 10 ** 30, way, 1), great + 2) for way in WAYS],
                         [10 ** 60 + 10 ** 30, 10 ** 60 + 10 ** 30 + 1, 10 ** 60 + 10 ** 30 + 1])

    def test_by_the_words_of_the_document(self):
        for step in steps_of(SHARES, PENNIES, (1, 2, 7, 100)):
            for amount in AMOUNTS:
                told = after(step, amount)
                self.assertEqual(told, told_after(step, amount), (step, amount))
                self.assertIs(type(told), int)

    def test_many_small_amounts(self):
        for step in steps_of(((1, 2), (2, 3), (5, 100)), (0, 3), (1, 5)):
            for amount in range(200):
                self.assertEqual(after(step, amount), told_after(step, amount), (step, amount))


class OwnCycle(unittest.TestCase):
    def takes(self, step, cycle, rise, amounts):
        """Whether the step takes each amount, made more by the cycle, to just the rise more."""
        return all(told_after(step, p + cycle) - told_after(step, p) == rise for p in amounts)

    def test_each_word(self):
        self.assertEqual(own_cycle(("times", 2, 3, 0, "near", 1)), (3, 2))
        self.assertEqual(own_cycle(("add", 1, 5, 0, "near", 1)), (5, 6))
        self.assertEqual(own_cycle(("off", 3, 100, 0, "up", 5)), (500, 485))
        self.assertEqual(own_cycle(("times", 1, 1, 10, "near", 1)), (1, 1))
        self.assertEqual(own_cycle(("times", 1, 1, 0, "down", 100)), (100, 100))
        self.assertEqual(own_cycle(("times", 100, 1, 0, "down", 100)), (1, 100))
        self.assertEqual(own_cycle(("times", 1, 100, 0, "up", 100)), (10000, 100))

    def test_share_not_in_lowest_terms(self):
        self.assertEqual(own_cycle(("times", 4, 6, 0, "near", 1)), (3, 2))
        self.assertEqual(own_cycle(("add", 2, 10, 0, "up", 5)), (25, 30))
        self.assertEqual(own_cycle(("off", 50, 100, 0, "down", 2)), (4, 2))

    def test_share_and_unit_with_a_common_divisor(self):
        self.assertEqual(own_cycle(("times", 6, 5, 0, "near", 4)), (10, 12))
        self.assertEqual(own_cycle(("add", 1, 5, 0, "near", 6)), (5, 6))
        self.assertEqual(own_cycle(("off", 1, 5, 0, "near", 8)), (10, 8))

    def test_by_the_formula_with_the_share_as_it_is_told(self):
        for word in WORDS:
            for d in range(1, 101):
                for n in range(1, d if word == "off" else 101, 3):
                    s = {"times": n, "add": d + n, "off": d - n}[word]
                    for unit in (1, 2, 6, 50, 97, 100):
                        g = gcd(s, d * unit)
                        told = own_cycle((word, n, d, 0, "near", unit))
                        if told != (d * unit // g, s * unit // g):
                            self.fail((word, n, d, unit, told))

    def test_kind(self):
        told = own_cycle(("add", 2, 10, 3, "up", 5))
        self.assertIs(type(told), tuple)
        self.assertEqual([type(number) for number in told], [int, int])

    def test_pennies_and_way_change_nothing(self):
        for step in steps_of(((4, 6),), PENNIES, (1, 10)):
            self.assertEqual(own_cycle(step), own_cycle(step[:3] + (0, "down") + step[5:]), step)

    def test_the_rise_holds_for_many_amounts(self):
        for step in steps_of(SHARES, (0, 13, 10 ** 30), (1, 5, 100)):
            cycle, rise = own_cycle(step)
            amounts = list(range(0, 40)) + [cycle - 1, cycle, 10 ** 30 + 7, 10 ** 45 + 1]
            self.assertTrue(self.takes(step, cycle, rise, amounts), step)

    def test_no_smaller_cycle_does_so(self):
        for step in steps_of(((1, 1), (1, 2), (2, 4), (4, 6), (7, 12), (9, 3)), (0, 13), (1, 2, 3, 4)):
            cycle, rise = own_cycle(step)
            ends = [told_after(step, p) for p in range(2 * cycle + 1)]
            for smaller in range(1, cycle):
                rises = {ends[p + smaller] - ends[p] for p in range(cycle + 1)}
                self.assertGreater(len(rises), 1, (step, smaller))
            self.assertEqual({ends[p + cycle] - ends[p] for p in range(cycle + 1)}, {rise}, step)

    def test_no_part_of_a_great_cycle_does_so(self):
        # Two cycles that hold leave their difference as one, so that the least divides every other.
        for way in WAYS:
            for step in (("times", 1, 100, 0, way, 100), ("add", 19, 100, 7, way, 10), ("off", 3, 100, 0, way, 5)):
                cycle = own_cycle(step)[0]
                ends = [after(step, p) for p in range(2 * cycle + 1)]
                for part in [part for part in range(1, cycle) if cycle % part == 0]:
                    rises = {ends[p + part] - ends[p] for p in range(cycle + 1)}
                    self.assertGreater(len(rises), 1, (step, part))


class NothingKept(unittest.TestCase):
    def test_what_was_asked_changes_no_later_answer(self):
        steps = steps_of(SHARES, (0, 13), (1, 100))
        first = [(share(step), after(step, 12345), own_cycle(step)) for step in steps]
        again = [(share(step), after(step, 12345), own_cycle(step)) for step in reversed(steps)]
        self.assertEqual(first, list(reversed(again)))


if __name__ == "__main__":
    unittest.main()
