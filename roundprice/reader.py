"""Chains as texts: read from the small language, and written in full form."""

from roundprice.errors import BadStep, TooLong
from roundprice.steps import WAYS, WORDS, own_cycle

FIGURES = "0123456789"
MOST_STEPS = 6
GREATEST_PRODUCT = 20000


def read(text):
    """The chain that the text tells, a list of steps."""
    chain = []
    if text == "":
        return chain
    for piece in text.split("; "):
        step = step_of(piece)
        if step is None or len(chain) == MOST_STEPS:
            raise BadStep(len(chain) + 1)
        chain.append(step)
    if cycle_product(chain) > GREATEST_PRODUCT:
        raise TooLong("the own cycles of the steps multiply to more than 20000")
    return chain


def write(chain):
    """The text of the chain in full form."""
    return "; ".join([text_of(step) for step in chain])


def step_of(piece):
    """The step that the piece tells, None where it is wrong."""
    words = piece.split(" ")
    fraction = (1, 1)
    pennies = 0
    unit = 1
    word = part_word(words, 0, WORDS)
    taken = 0
    if word is not None:
        fraction = fraction_of(words[1], word)
        taken = 2
    if part_word(words, taken, ("plus",)) is not None:
        pennies = number_of(words[taken + 1], 0, 10 ** 30)
        taken = taken + 2
    way = part_word(words, taken, WAYS)
    if way is not None:
        unit = number_of(words[taken + 1], 1, 100)
        taken = taken + 2
    # Each part that stands in its place is taken, so that whatever is left over is wrong; of a piece without
    # any part, an empty one too, its words are left over.
    if taken < len(words):
        return None
    if fraction is None or pennies is None or unit is None:
        return None
    return (word or "times", fraction[0], fraction[1], pennies, way or "near", unit)


def part_word(words, place, allowed):
    """The allowed word that begins a part at the place, None where no such part stands there."""
    # A part is two words: its name, and the number or fraction behind it.
    if place + 1 < len(words) and words[place] in allowed:
        return words[place]
    return None


def fraction_of(text, word):
    """The fraction of a share with that word, a tuple of n and d, None where it is wrong."""
    numbers = [number_of(figures, 1, 100) for figures in text.split("/")]
    if len(numbers) != 2 or None in numbers:
        return None
    if word == "off" and numbers[0] >= numbers[1]:
        return None
    return (numbers[0], numbers[1])


def number_of(text, low, high):
    """The whole number that the text tells, None where it tells none from low to high."""
    # What has more figures than high lies beyond it; int itself refuses texts that are very long.
    if text == "" or len(text) > len(str(high)):
        return None
    if any([sign not in FIGURES for sign in text]):
        return None
    if text[0] == "0" and text != "0":
        return None
    number = int(text)
    if number < low or number > high:
        return None
    return number


def cycle_product(chain):
    """The own cycles of the chain's steps, multiplied with one another."""
    product = 1
    for step in chain:
        product = product * own_cycle(step)[0]
    return product


def text_of(step):
    """The text of one step in full form."""
    word = step[0]
    n = step[1]
    d = step[2]
    pennies = step[3]
    way = step[4]
    unit = step[5]
    return f"{word} {n}/{d} plus {pennies} {way} {unit}"
