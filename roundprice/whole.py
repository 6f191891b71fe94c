"""Reckoning with whole numbers that the other modules share."""


def common_divisor(one, other):
    """The greatest common divisor of one, any whole number, and other, from 1 on."""
    while other > 0:
        rest = one % other
        one = other
        other = rest
    return one


def lowest(num, den):
    """The fraction num / den, num any whole number and den from 1 on, as a tuple (num, den) in lowest terms."""
    divisor = common_divisor(num, den)
    return (num // divisor, den // divisor)


def prime_factors(number):
    """The prime factors of the number, from 1 on, in rising order, each as often as it divides the number."""
    factors = []
    prime = 2
    while prime * prime <= number:
        if number % prime == 0:
            factors.append(prime)
            number = number // prime
        else:
            prime = prime + 1
    if number > 1:
        factors.append(number)
    return factors
