"""The refusals: their bases, how they are caught, and the field of BadStep."""

import unittest

from roundprice import errors

PLAIN = ("TooLong", "BadPrice", "NoPlace", "NotBehind", "TooMany", "NoEdition", "NoSale", "GivenBack")


def made(name):
    """An error of that name, made as the program makes it."""
    if name == "BadStep":
        return errors.BadStep(4)
    return getattr(errors, name)("some words")


class Bases(unittest.TestCase):
    def test_refused_stands_straight_under_value_error(self):
        self.assertEqual(errors.Refused.__bases__, (ValueError,))

    def test_each_stands_straight_under_refused(self):
        for name in PLAIN + ("BadStep",):
            with self.subTest(name=name):
                self.assertEqual(getattr(errors, name).__bases__, (errors.Refused,))
                self.assertEqual(getattr(errors, name).__name__, name)


class Caught(unittest.TestCase):
    def test_caught_by_its_own_name_as_refused_and_as_value_error(self):
        for name in PLAIN + ("BadStep",):
            for base in (getattr(errors, name), errors.Refused, ValueError):
                with self.subTest(name=name, base=base.__name__):
                    with self.assertRaises(base):
                        raise made(name)

    def test_not_caught_as_another_refusal(self):
        names = PLAIN + ("BadStep",)
        for name in names:
            for other in names:
                with self.subTest(name=name, other=other):
                    self.assertEqual(isinstance(made(name), getattr(errors, other)), name == other)

    def test_made_without_words(self):
        for name in PLAIN:
            with self.subTest(name=name):
                with self.assertRaises(errors.Refused):
                    raise getattr(errors, name)()


class At(unittest.TestCase):
    def test_at_is_the_number_it_was_made_with(self):
        for number in (1, 2, 6, 7, 500):
            error = errors.BadStep(number)
            self.assertEqual(error.at, number)
            self.assertIs(type(error.at), int)

    def test_at_is_there_where_it_is_caught(self):
        with self.assertRaises(errors.Refused) as caught:
            raise errors.BadStep(3)
        self.assertEqual(caught.exception.at, 3)

    def test_two_made_are_apart(self):
        first = errors.BadStep(1)
        second = errors.BadStep(2)
        self.assertEqual((first.at, second.at), (1, 2))
        self.assertFalse(hasattr(errors.BadStep, "at"))


if __name__ == "__main__":
    unittest.main()
