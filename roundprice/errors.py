"""The refusals: one class for each, all under Refused."""


class Refused(ValueError):
    """Any refusal."""


class BadStep(Refused):
    """A chain's text has a wrong step; at is the number of the first one, counted from 1."""

    def __init__(self, at):
        self.at = at


class TooLong(Refused):
    """The own cycles of a chain's steps multiply to more than a chain may have."""


class BadPrice(Refused):
    """A price lies beyond its bounds."""


class NoPlace(Refused):
    """A chain has no neighbours at that number."""


class NotBehind(Refused):
    """An edition's day is not greater than the last edition's."""


class TooMany(Refused):
    """A house has as many editions, or as many sales, as it takes."""


class NoEdition(Refused):
    """A house has no edition for that day."""


class NoSale(Refused):
    """No sale has that number."""


class GivenBack(Refused):
    """That sale was given back before."""
