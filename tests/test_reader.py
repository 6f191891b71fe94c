"""Chains as texts: what is read, what is refused, and what is written."""

import re
import unittest

from roundprice.errors import BadStep, Refused, TooLong
from roundprice.reader import read, write

from told import mixed_chains, told_product

EXAMPLE = "add 1/5; off 3/100 up 5; plus 10"
EXAMPLE_CHAIN = [("add", 1, 5, 0, "near", 1), ("off", 3, 100, 0, "up", 5), ("times", 1, 1, 10, "near", 1)]

NUMBER = "(0|[1-9][0-9]*)"
PARTS = (f"(times|add|off) {NUMBER}/{NUMBER}", f"plus {NUMBER}", f"(down|up|near) {NUMBER}")

# No piece here has a semicolon straight ahead of a blank, so that each is the text of one step.
NOT_OF_THE_FORM = (
    "", " ", "  ", ";", ";;", "/", "1", "1/2", "x",
    " add 1/5", "add 1/5 ", "add  1/5", "add 1/5  up 5", "add 1/5 plus  3", "add 1/5 plus 3 up 5 ", " plus 3", "plus 3 ",
    "up  5", "up 5 ", " up 5",
    "add 1 /5", "add 1/ 5", "add 1 / 5", "add /5", "add 1/", "add /", "add 1", "add 5", "add 1/5/1", "add 1//5",
    "add", "times", "off", "plus", "down", "up", "near", "add ", "plus ", "near ", "add plus up", "add plus 3",
    "add up 5", "add 1/5 plus", "add 1/5 up", "add 1/5 plus up 5", "plus up 5", "plus 3 up",
    "add 1/5 add 1/5", "add 1/5 off 1/5", "times 1/1 times 1/1", "plus 3 plus 3", "plus 0 plus 0", "up 5 up 5",
    "up 5 down 5", "near 1 near 1", "add 1/5 plus 3 plus 3", "add 1/5 plus 3 up 5 up 5", "add 1/5 plus 3 up 5 add 1/5",
    "plus 3 add 1/5", "up 5 add 1/5", "up 5 plus 3", "up 5 plus 3 add 1/5", "plus 3 add 1/5 up 5", "add 1/5 up 5 plus 3",
    "Add 1/5", "ADD 1/5", "aDD 1/5", "Times 1/1", "Off 1/5", "Plus 3", "PLUS 3", "Down 5", "Up 5", "uP 5", "Near 5",
    "add +1/5", "add 1/+5", "add -1/5", "add 1/-5", "plus +3", "plus -3", "plus -0", "up +5", "up -5",
    "add 01/5", "add 1/05", "add 00/5", "plus 03", "plus 00", "plus 000", "up 05", "up 00", "near 01", "plus 01000",
    "add 1.0/5", "plus 3.0", "plus 3.", "plus .3", "plus 3,000", "plus 1_000", "plus 1e3", "plus 0x1f", "plus 3p",
    "plus p3", "plus 3/1", "up 5/1", "plus three", "add one/five", "add 1\\5", "add 1:5", "add 1-5",
    "add 1/5;", "add 1/5;up 5", "add 1/5;off 3/100", ";add 1/5", "add 1/5 ;", "add 1/5 ;off 3/100", "plus 3;",
    "plus 3;plus 3", "add 1/5,", "add 1/5, up 5", "add 1/5 and up 5", "add1/5", "plus3", "up5", "add 1/5up 5",
    "add 1/5 plus 3up 5", "minus 3", "sub 1/5", "round 5", "nearest 5", "nea 5", "adds 1/5", "tim 1/5", "time 1/1",
    "add 1/5 x", "add 1/5 plus 3 up 5 x", "x add 1/5", "add x 1/5", "(add 1/5)", "\"add 1/5\"", "add 1/5.", "~",
    "plus " + 1990 * "0", "plus 0" + 1990 * "1",
)

BEYOND = (
    "times 0/1", "times 1/0", "times 0/0", "times 101/1", "times 1/101", "times 101/101", "times 100/101",
    "add 0/1", "add 1/0", "add 101/1", "add 1/101", "off 0/1", "off 0/5", "off 1/0", "off 1/101", "off 100/101",
    "off 1/1", "off 2/2", "off 99/99", "off 100/100", "off 2/1", "off 100/99", "off 100/1", "off 6/5",
    f"plus {10 ** 30 + 1}", f"plus {2 * 10 ** 30}", f"plus {10 ** 31}", "plus " + 1990 * "9",
    "down 0", "up 0", "near 0", "down 101", "up 101", "near 101", "down 200", "near 1000", "up " + 1990 * "1",
    "times " + 900 * "1" + "/" + 900 * "1", "add 1/5 plus 0 up 0", "add 1/5 plus 0 up 101", "add 0/5 plus 0 up 5",
    f"add 1/5 plus {10 ** 30 + 1} up 5", "off 5/5 plus 3 up 5", "times 1000/1", "times 1/1000",
)


def told_step(piece):
    """The step that the piece tells by the document's words, None where it is wrong."""
    for kept in ((0,), (1,), (2,), (0, 1), (0, 2), (1, 2), (0, 1, 2)):
        match = re.fullmatch(" ".join(PARTS[place] for place in kept), piece)
        if match:
            found = list(match.groups())
            word, n, d = (found.pop(0), int(found.pop(0)), int(found.pop(0))) if 0 in kept else ("times", 1, 1)
            pennies = int(found.pop(0)) if 1 in kept else 0
            way, unit = (found.pop(0), int(found.pop(0))) if 2 in kept else ("near", 1)
            fits = 1 <= n <= 100 and 1 <= d <= 100 and pennies <= 10 ** 30 and 1 <= unit <= 100
            return (word, n, d, pennies, way, unit) if fits and (word != "off" or n < d) else None
    return None


def told_read(text):
    """What is read by the document's words: a chain, a wrong step's number, or None where the text is too long."""
    if text == "":
        return []
    pieces = text.split("; ")
    for number, piece in enumerate(pieces, start=1):
        if number == 7 or told_step(piece) is None:
            return number
    chain = [told_step(piece) for piece in pieces]
    return None if told_product(chain) > 20000 else chain


def was_read(text):
    """What the program makes of the text, told as told_read does."""
    try:
        return read(text)
    except BadStep as error:
        return error.at
    except TooLong:
        return None


class Reading(unittest.TestCase):
    def test_the_example_of_three_steps(self):
        self.assertEqual(read(EXAMPLE), EXAMPLE_CHAIN)

    def test_the_empty_text(self):
        self.assertEqual(read(""), [])

    def test_each_part_left_out(self):
        self.assertEqual(read("off 3/100 plus 7 down 5"), [("off", 3, 100, 7, "down", 5)])
        self.assertEqual(read("plus 7 down 5"), [("times", 1, 1, 7, "down", 5)])
        self.assertEqual(read("off 3/100 down 5"), [("off", 3, 100, 0, "down", 5)])
        self.assertEqual(read("off 3/100 plus 7"), [("off", 3, 100, 7, "near", 1)])
        self.assertEqual(read("off 3/100"), [("off", 3, 100, 0, "near", 1)])
        self.assertEqual(read("plus 7"), [("times", 1, 1, 7, "near", 1)])
        self.assertEqual(read("down 5"), [("times", 1, 1, 0, "down", 5)])

    def test_each_word_with_each_way(self):
        for word in ("times", "add", "off"):
            for way in ("down", "up", "near"):
                self.assertEqual(read(f"{word} 1/2 plus 3 {way} 4"), [(word, 1, 2, 3, way, 4)])

    def test_numbers_as_they_are_told(self):
        self.assertEqual(read("add 2/10 up 5"), [("add", 2, 10, 0, "up", 5)])
        self.assertEqual(read("times 100/100"), [("times", 100, 100, 0, "near", 1)])
        self.assertEqual(read("off 50/100; times 4/2 near 10"),
                         [("off", 50, 100, 0, "near", 1), ("times", 4, 2, 0, "near", 10)])

    def test_six_steps(self):
        pieces = ["add 1/5", "off 1/2", "plus 1", "up 2", "times 3/1", "near 5"]
        self.assertEqual(read("; ".join(pieces)), [told_step(piece) for piece in pieces])

    def test_the_same_step_twice(self):
        self.assertEqual(read("plus 1; plus 1"), 2 * [("times", 1, 1, 1, "near", 1)])

    def test_numbers_just_at_their_bounds(self):
        self.assertEqual(read("times 1/1 plus 0 down 1"), [("times", 1, 1, 0, "down", 1)])
        self.assertEqual(read("times 100/1 plus 0 down 100"), [("times", 100, 1, 0, "down", 100)])
        self.assertEqual(read("times 1/100 up 100"), [("times", 1, 100, 0, "up", 100)])
        self.assertEqual(read("add 100/100 near 100"), [("add", 100, 100, 0, "near", 100)])
        self.assertEqual(read("add 1/1"), [("add", 1, 1, 0, "near", 1)])
        self.assertEqual(read("off 99/100"), [("off", 99, 100, 0, "near", 1)])
        self.assertEqual(read("off 1/2"), [("off", 1, 2, 0, "near", 1)])
        self.assertEqual(read(f"plus {10 ** 30}"), [("times", 1, 1, 10 ** 30, "near", 1)])
        self.assertEqual(read(f"plus {10 ** 30 - 1}"), [("times", 1, 1, 10 ** 30 - 1, "near", 1)])

    def test_every_share_and_unit(self):
        for number in range(0, 103):
            for text in (f"times {number}/1", f"times 1/{number}", f"add {number}/7", f"off {number}/50",
                         f"off 50/{number}", f"off {number}/{number}", f"down {number}", f"up {number}",
                         f"near {number}", f"plus {number}"):
                self.assertEqual(was_read(text), told_read(text), text)

    def test_kinds(self):
        chain = read(EXAMPLE)
        self.assertIs(type(chain), list)
        self.assertIs(type(read("")), list)
        for step in chain:
            self.assertIs(type(step), tuple)
            self.assertEqual([type(value) for value in step], [str, int, int, int, str, int])


class WrongSteps(unittest.TestCase):
    def refused_at(self, text, number):
        with self.assertRaises(BadStep, msg=text) as caught:
            read(text)
        self.assertEqual(caught.exception.at, number, text)
        self.assertIs(type(caught.exception.at), int)

    def test_not_of_the_form_or_beyond_a_bound(self):
        for piece in NOT_OF_THE_FORM + BEYOND:
            self.assertIsNone(told_step(piece), piece)
            if piece != "":
                self.refused_at(piece, 1)
            self.refused_at(piece + "; plus 1", 1)
            self.refused_at("plus 1; " + piece, 2)
            self.refused_at("plus 1; plus 1; " + piece + "; plus 1", 3)
            self.refused_at(5 * "plus 1; " + piece, 6)

    def test_blanks_beside_the_cut(self):
        self.refused_at("add 1/5;  off 3/100", 2)
        self.refused_at("add 1/5 ; off 3/100", 1)
        self.refused_at(" ; plus 1", 1)
        self.refused_at("plus 1;  ", 2)

    def test_empty_pieces(self):
        self.refused_at("; ", 1)
        self.refused_at("; ; ", 1)
        self.refused_at("plus 1; ", 2)
        self.refused_at("; plus 1", 1)
        self.refused_at("plus 1; ; plus 1", 2)
        self.refused_at("plus 1;; plus 1", 1)
        self.refused_at("plus 1; ;plus 1", 2)

    def test_the_first_wrong_step_counts(self):
        self.refused_at("plus 1; x; y; plus 1", 2)
        self.refused_at("off 1/1; x", 1)
        self.refused_at("x; off 1/1", 1)
        self.refused_at("plus 1; plus 2; up 0; up 0", 3)

    def test_the_seventh_step(self):
        self.refused_at("; ".join(7 * ["plus 1"]), 7)
        self.refused_at("; ".join(8 * ["plus 1"]), 7)
        self.refused_at("; ".join(6 * ["plus 1"] + ["x"]), 7)
        self.refused_at("; ".join(6 * ["plus 1"] + ["", ""]), 7)
        self.refused_at("; ".join(7 * ["plus 1"] + ["x"]), 7)
        self.refused_at("; ".join(6 * ["plus 1"]) + "; ", 7)
        self.refused_at("; ".join(249 * ["plus 1"]), 7)

    def test_wrong_steps_ahead_of_the_seventh(self):
        for number in range(1, 7):
            pieces = 9 * ["plus 1"]
            pieces[number - 1] = "plus 01"
            self.refused_at("; ".join(pieces), number)

    def test_texts_of_2000_signs(self):
        self.refused_at(1000 * "; ", 1)
        self.refused_at(2000 * ";", 1)
        self.refused_at(2000 * " ", 1)
        self.refused_at("plus " + 1995 * "1", 1)
        self.refused_at("plus 1; plus " + 1987 * "1", 2)

    def test_a_wrong_step_goes_ahead_of_too_long(self):
        self.refused_at("down 100; down 100; down 100; x", 4)
        self.refused_at("down 100; down 100; down 100; down 0", 4)
        self.refused_at("x; down 100; down 100; down 100", 1)
        self.refused_at("times 1/100 down 100; times 1/100 down 100; off 1/1", 3)
        self.refused_at("; ".join(7 * ["down 100"]), 7)

    def test_bad_step_is_no_too_long(self):
        with self.assertRaises(Refused) as caught:
            read("x")
        self.assertNotIsInstance(caught.exception, TooLong)

    def test_every_text_one_sign_away(self):
        for text in ("add 1/5 plus 30 up 5", "off 9/10", "plus 0; near 10", "times 1/2 down 2; plus 7"):
            for place in range(len(text) + 1):
                others = [text[:place] + text[place + 1:]]
                for sign in " ;/0129+-.,aAdnopstuU~":
                    others.append(text[:place] + sign + text[place:])
                    others.append(text[:place] + sign + text[place + 1:])
                for other in others:
                    self.assertEqual(was_read(other), told_read(other), other)


class TooLongTexts(unittest.TestCase):
    def test_just_20000(self):
        for text in ("down 100; up 100; times 1/2", "times 1/100 near 100; off 1/2", "times 1/50; times 1/100 up 4",
                     "times 1/10; times 1/10; times 1/10; times 1/10; times 1/2; plus 1",
                     "times 1/2; add 7/100 near 100"):
            self.assertEqual(told_product(told_read(text)), 20000, text)
            self.assertEqual(read(text), told_read(text))

    def test_the_least_product_above_20000(self):
        # From 20001 to 20006 each number has a prime factor above 100, which no own cycle has.
        text = "times 1/81; times 1/13; times 1/19"
        self.assertEqual(told_product([told_step(piece) for piece in text.split("; ")]), 20007)
        with self.assertRaises(TooLong):
            read(text)

    def test_further_above(self):
        for text in ("down 100; down 100; down 3", "times 1/100 near 100; times 1/100 near 100",
                     "; ".join(6 * ["times 1/100 down 100"]), "; ".join(6 * ["times 1/6"]),
                     "plus 1; down 100; plus 1; down 100; plus 1; down 100"):
            with self.assertRaises(TooLong, msg=text) as caught:
                read(text)
            self.assertNotIsInstance(caught.exception, BadStep)

    def test_the_product_counts_and_not_the_chains_own_cycle(self):
        # This chain's cycle is 100, but its steps' own cycles come to 100 ** 3.
        with self.assertRaises(TooLong):
            read("down 100; down 100; down 100")

    def test_own_cycles_in_lowest_terms(self):
        self.assertEqual(len(read("; ".join(6 * ["times 50/100"]))), 6)
        self.assertEqual(len(read("; ".join(6 * ["times 100/1 down 100"]))), 6)
        self.assertEqual(len(read("; ".join(6 * [f"add 100/100 plus {10 ** 30} near 2"]))), 6)

    def test_by_the_words_of_the_document(self):
        refused = 0
        for chain in mixed_chains(11, 400, 10 ** 6):
            text = write(chain)
            self.assertEqual(was_read(text), told_read(text), text)
            refused += told_read(text) is None
        self.assertTrue(100 < refused < 300)


class Writing(unittest.TestCase):
    def test_full_form(self):
        self.assertEqual(write([("add", 2, 10, 0, "up", 5)]), "add 2/10 plus 0 up 5")
        self.assertEqual(write(EXAMPLE_CHAIN),
                         "add 1/5 plus 0 near 1; off 3/100 plus 0 up 5; times 1/1 plus 10 near 1")
        self.assertEqual(write([("times", 100, 100, 10 ** 30, "down", 100)]),
                         f"times 100/100 plus {10 ** 30} down 100")

    def test_without_steps(self):
        self.assertEqual(write([]), "")

    def test_kind(self):
        for chain in ([], EXAMPLE_CHAIN):
            self.assertIs(type(write(chain)), str)

    def test_read_back_as_the_same_chain(self):
        for chain in [[], EXAMPLE_CHAIN] + mixed_chains(12, 300, 20000):
            self.assertEqual(read(write(chain)), chain)

    def test_written_again_as_the_same_text(self):
        for chain in mixed_chains(13, 100, 20000):
            text = write(chain)
            self.assertEqual(write(read(text)), text)


class NothingKept(unittest.TestCase):
    def test_a_chain_that_is_told_is_the_callers_own(self):
        for text in ("", EXAMPLE):
            first = read(text)
            kept = list(first)
            first.append(("add", 1, 2, 3, "up", 4))
            first.reverse()
            self.assertEqual(read(text), kept)
            self.assertIsNot(read(text), read(text))

    def test_a_chain_that_is_written_stays_as_it_is(self):
        chain = list(EXAMPLE_CHAIN)
        text = write(chain)
        self.assertEqual(chain, EXAMPLE_CHAIN)
        chain.clear()
        self.assertEqual(text, write(EXAMPLE_CHAIN))
        self.assertEqual(write(chain), "")

    def test_a_refusal_changes_no_later_answer(self):
        for text in ("plus 1; x", "down 100; down 100; down 100", "; ".join(7 * ["plus 1"])):
            with self.assertRaises(Refused):
                read(text)
            self.assertEqual(read(EXAMPLE), EXAMPLE_CHAIN)


if __name__ == "__main__":
    unittest.main()
