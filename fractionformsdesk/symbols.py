"""Squares at a prime, and the symbol of two numbers at a place."""

from fractionformsdesk.primes import order_at, unit_at


def is_square_modulo(unit, prime):
    """Whether a number that an odd prime doesn't divide is a square but for multiples of it."""
    # It is just if its power (prime - 1) // 2 is 1 but for such multiples.
    power = 1
    factor = unit % prime
    exponent = (prime - 1) // 2
    while exponent > 0:
        if exponent % 2 == 1:
            power = power * factor % prime
        factor = factor * factor % prime
        exponent = exponent // 2
    return power == 1


def is_square_at(number, prime):
    """Whether a number but 0 is a square but for multiples of each power of a prime."""
    if order_at(number, prime) % 2 == 1:
        return False
    unit = unit_at(number, prime)
    if prime == 2:
        return unit % 8 == 1
    return is_square_modulo(unit, prime)


def symbol_at_two(a, b):
    """The symbol of two numbers but 0 at the prime 2."""
    first = unit_at(a, 2)
    second = unit_at(b, 2)
    minus = first % 4 == 3 and second % 4 == 3
    if order_at(a, 2) % 2 == 1 and second % 8 in (3, 5):
        minus = not minus
    if order_at(b, 2) % 2 == 1 and first % 8 in (3, 5):
        minus = not minus
    return -1 if minus else 1


def symbol_at_odd(a, b, prime):
    """The symbol of two numbers but 0 at an odd prime."""
    first_odd = order_at(a, prime) % 2 == 1
    second_odd = order_at(b, prime) % 2 == 1
    minus = first_odd and second_odd and prime % 4 == 3
    if first_odd and not is_square_modulo(unit_at(b, prime), prime):
        minus = not minus
    if second_odd and not is_square_modulo(unit_at(a, prime), prime):
        minus = not minus
    return -1 if minus else 1


def symbol_of_two(a, b, place):
    """The symbol of two numbers but 0 at a place."""
    if place == 0:
        return -1 if a < 0 and b < 0 else 1
    if place == 2:
        return symbol_at_two(a, b)
    return symbol_at_odd(a, b, place)
