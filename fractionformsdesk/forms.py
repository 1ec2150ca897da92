"""A form, what stays of it, and its zeros."""

from fractionformsdesk.primes import prime_divisors, without_squares
from fractionformsdesk.squares import determinant, diagonal_of
from fractionformsdesk.symbols import is_square_at, symbol_of_two


class Form:
    """A form whose determinant isn't 0, by the rows of its m(i, j)."""

    def __init__(self, rows):
        self.n = len(rows)
        self.rows = rows
        self.determinant = determinant(rows)
        self.diagonal = diagonal_of(rows)


def class_of(form):
    """The product of all ai without squares."""
    # The determinant is that product times the square of a fraction.
    return without_squares(form.determinant)


def count_above(form):
    """How many ai are above 0."""
    return len([a for a in form.diagonal if a > 0])


def count_below(form):
    """How many ai are below 0."""
    return form.n - count_above(form)


def symbol_of(form, place):
    """The symbols of ai and aj at a place, for all i below j, multiplied."""
    product = 1
    for j in range(form.n):
        for i in range(j):
            product = product * symbol_of_two(form.diagonal[i], form.diagonal[j], place)
    return product


def primes_to_ask(form):
    """2 and the primes that divide some ai, rising: at all others every symbol is 1."""
    seen = {2: True}
    for a in form.diagonal:
        for prime in prime_divisors(a):
            seen[prime] = True
    return sorted(seen)


def primes_with_minus(form):
    """The primes at which the form's symbol is -1, rising."""
    return [prime for prime in primes_to_ask(form) if symbol_of(form, prime) == -1]


def has_zero_at_prime(form, prime):
    """Whether the form has a zero at a prime."""
    if form.n == 1:
        return False
    if form.n == 2:
        return is_square_at(-form.determinant, prime)
    if form.n == 3:
        return symbol_of(form, prime) == symbol_of_two(-1, -form.determinant, prime)
    if is_square_at(form.determinant, prime):
        return symbol_of(form, prime) == symbol_of_two(-1, -1, prime)
    return True


def has_zero_at(form, place):
    """Whether the form has a zero at a place."""
    if place == 0:
        return count_above(form) > 0 and count_below(form) > 0
    return has_zero_at_prime(form, place)


def has_zero(form):
    """Whether the form is 0 at some row of whole numbers that aren't all 0."""
    # Where there's a zero at every place there's one of whole numbers. The primes that aren't asked
    # speak against none: with n 2, where all that are asked have one, the determinant is minus a square.
    return all([has_zero_at(form, place) for place in [0] + primes_to_ask(form)])
