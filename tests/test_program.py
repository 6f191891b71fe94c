"""What holds over the whole program: the interface's names, prices at every door, lists that are handed in and told."""

import importlib
import inspect
import unittest

from roundprice.astray import astray
from roundprice.back import missing, origin
from roundprice.compare import alike, exchanged, may_exchange, parting
from roundprice.errors import BadPrice, Refused
from roundprice.flat import flatten
from roundprice.house import House
from roundprice.reader import read, write
from roundprice.walk import end_of, trail, unrounded

EXAMPLE = "add 1/5; off 3/100 up 5; plus 10"
TEXTS = ("", "add 1/5", EXAMPLE, "times 1/100 down 100", "times 100/1 plus 1000000000000000000000000000000 up 100")

FUNCTIONS = {
    "steps": {"share": "step", "rounded": "num den unit way", "after": "step amount", "own_cycle": "step"},
    "reader": {"read": "text", "write": "chain"},
    "walk": {"end_of": "chain price", "trail": "chain price", "unrounded": "chain price"},
    "flat": {"flatten": "chain"},
    "back": {"origin": "chain end", "missing": "chain low high"},
    "compare": {"parting": "one other", "alike": "one other", "exchanged": "chain k", "may_exchange": "chain k"},
    "astray": {"astray": "chain"},
}
METHODS = {
    ("flat", "Flat"): {"end": "price"},
    ("house", "House"): {
        "issue": "day text", "edition": "day", "chain": "day", "editions": "", "sell": "day price",
        "give_back": "number", "sale": "number", "standing": "", "till": "", "end_on": "day price",
        "origin_on": "day end", "parting_on": "day other"},
}


def house_of(text):
    house = House()
    house.issue(0, text)
    return house


def doors(text):
    """Every door that takes a price, for the chain of the text; each tells the end, but for the unrounded one."""
    chain = read(text)
    house = house_of(text)
    return {
        "end_of": lambda price: end_of(chain, price),
        "trail": lambda price: trail(chain, price)[-1],
        "unrounded": lambda price: unrounded(chain, price),
        "Flat.end": flatten(chain).end,
        "sell": lambda price: house.sell(0, price)[1],
        "end_on": lambda price: house.end_on(0, price),
    }


# Everything that takes a chain, with plain arguments beside it.
TAKES_A_CHAIN = {
    "write": write,
    "end_of": lambda chain: end_of(chain, 99),
    "trail": lambda chain: trail(chain, 99),
    "unrounded": lambda chain: unrounded(chain, 99),
    "flatten": lambda chain: (flatten(chain).cycle, flatten(chain).rise, flatten(chain).ends, flatten(chain).end(99)),
    "origin": lambda chain: origin(chain, 130),
    "origin of no end": lambda chain: origin(chain, 131),
    "missing": lambda chain: missing(chain, 0, 200),
    "parting": lambda chain: parting(chain, chain),
    "parting of another": lambda chain: parting(chain, read("add 1/5")),
    "alike": lambda chain: alike(chain, chain),
    "exchanged": lambda chain: exchanged(chain, 1),
    "may_exchange": lambda chain: may_exchange(chain, 2),
    "astray": astray,
}


class Interface(unittest.TestCase):
    def test_functions_and_their_arguments(self):
        for module in FUNCTIONS:
            held = importlib.import_module("roundprice." + module)
            for name, words in FUNCTIONS[module].items():
                self.assertEqual(list(inspect.signature(getattr(held, name)).parameters), words.split(), name)

    def test_methods_and_their_arguments(self):
        for module, name in METHODS:
            held = getattr(importlib.import_module("roundprice." + module), name)
            for method, words in METHODS[(module, name)].items():
                parameters = list(inspect.signature(getattr(held, method)).parameters)
                self.assertEqual(parameters, ["self"] + words.split(), method)

    def test_a_house_is_made_of_nothing(self):
        self.assertEqual(list(inspect.signature(House).parameters), [])


class Prices(unittest.TestCase):
    def test_at_the_bounds_they_are_taken(self):
        for text in TEXTS:
            for name, door in doors(text).items():
                for price in (0, 1, 10 ** 30 - 1, 10 ** 30):
                    told = unrounded(read(text), price) if name == "unrounded" else end_of(read(text), price)
                    self.assertEqual(door(price), told, (text, name, price))

    def test_just_beyond_they_are_refused(self):
        for text in TEXTS:
            for name, door in doors(text).items():
                for price in (-1, -2, -10 ** 30, 10 ** 30 + 1, 10 ** 30 + 2, 10 ** 31, 10 ** 60):
                    with self.assertRaises(Refused, msg=(text, name, price)) as caught:
                        door(price)
                    self.assertIs(type(caught.exception), BadPrice, (text, name, price))

    def test_told_prices_and_ends_may_be_greater(self):
        chain = read("times 1/100")
        self.assertEqual(origin(chain, 10 ** 45), ("from", 10 ** 47 - 50, 10 ** 47 + 49))
        self.assertEqual(end_of(read("times 100/1"), 10 ** 30), 10 ** 32)
        self.assertEqual(house_of("times 1/100").origin_on(0, 10 ** 45), ("from", 10 ** 47 - 50, 10 ** 47 + 49))


class Lists(unittest.TestCase):
    def test_handed_in_they_stay_as_they_are(self):
        for name, asked in TAKES_A_CHAIN.items():
            chain = read(EXAMPLE)
            asked(chain)
            self.assertEqual(chain, read(EXAMPLE), name)

    def test_what_is_done_to_them_behind_a_call_changes_nothing_told(self):
        for name, asked in TAKES_A_CHAIN.items():
            for change in (list.clear, list.pop, list.reverse):
                chain = read(EXAMPLE)
                told = asked(chain)
                kept = list(told) if isinstance(told, list) else told
                change(chain)
                self.assertEqual(told, kept, name)
                self.assertEqual(asked(read(EXAMPLE)), kept, name)

    def test_told_they_are_the_callers_own(self):
        house = house_of(EXAMPLE)
        house.sell(0, 5)
        told_lists = {
            "read": lambda: read(EXAMPLE),
            "trail": lambda: trail(read(EXAMPLE), 99),
            "missing": lambda: missing(read(EXAMPLE), 0, 20),
            "exchanged": lambda: exchanged(read(EXAMPLE), 1),
            "chain": lambda: house.chain(0),
            "editions": house.editions,
            "standing": house.standing,
        }
        for name, asked in told_lists.items():
            for change in (list.clear, list.reverse, lambda told: told.append(None)):
                told = asked()
                self.assertIs(type(told), list, name)
                kept = list(told)
                change(told)
                self.assertEqual(asked(), kept, name)

    def test_a_house_chain_handed_on_stays_the_callers_own(self):
        house = house_of(EXAMPLE)
        chain = house.chain(0)
        other = exchanged(chain, 1)
        chain.clear()
        other.clear()
        self.assertEqual(house.chain(0), read(EXAMPLE))
        self.assertEqual(house.end_on(0, 99), 130)


class SomewhatBeyond(unittest.TestCase):
    """Nothing is refused for lying beyond a bound where no point says so."""

    def test_ends(self):
        self.assertEqual(origin(read("plus 3"), 10 ** 45 + 1), ("from", 10 ** 45 - 2, 10 ** 45 - 2))
        self.assertEqual(origin(read("plus 3"), -1), ("none", None, 3))
        self.assertEqual(origin([], -1), ("none", None, 0))
        self.assertEqual(missing([], -2, 2), [-2, -1])
        self.assertEqual(missing(read("times 2/1"), 0, 300), list(range(1, 300, 2)))

    def test_days(self):
        house = House()
        self.assertEqual(house.issue(-1, "plus 1"), 1)
        self.assertEqual(house.issue(10 ** 9 + 1, "plus 2"), 2)
        self.assertEqual((house.edition(-1), house.edition(10 ** 9), house.edition(10 ** 12)), (1, 1, 2))

    def test_chains(self):
        chain = 7 * read("times 1/5")
        self.assertEqual(origin(chain, 1)[0], "from")
        self.assertIsNone(parting(chain, chain))
        self.assertEqual(astray(chain)[0], (-39062, 78125, 39062))


if __name__ == "__main__":
    unittest.main()
