"""A form, its numbers, what stays of it, its zeros, and what it makes."""

from fractionformsdesk.primes import prime_divisors, without_squares
from fractionformsdesk.squares import determinant, diagonal_of, with_square
from fractionformsdesk.symbols import is_square_at, symbol_of_two


class Form:
    """A form whose determinant isn't 0, by the rows of its m(i, j)."""

    def __init__(self, rows):
        self.n = len(rows)
        self.rows = rows
        self.determinant = determinant(rows)
        self.diagonal = diagonal_of(rows)


def value_at(form, row):
    """The form's number at a row of n numbers."""
    total = 0
    for line, x in zip(form.rows, row):
        total += x * sum([m * y for m, y in zip(line, row)])
    return total


def class_of(form):
    """The product of all ai without squares."""
    # The determinant is that product times the square of a fraction.
    return without_squares(form.determinant)


def count_above(form):
    """How many ai are above 0."""
    return len([a for a in form.diagonal if a > 0])


def count_below(form):
    """How many ai are below 0."""
    return form.n - count_above(form)


def symbol_of(form, place):
    """The symbols of ai and aj at a place, for all i below j, multiplied."""
    product = 1
    for j in range(form.n):
        for i in range(j):
            product = product * symbol_of_two(form.diagonal[i], form.diagonal[j], place)
    return product


def primes_to_ask(form):
    """2 and the primes that divide some ai, rising: at all others every symbol is 1."""
    seen = {2: True}
    for a in form.diagonal:
        for prime in prime_divisors(a):
            seen[prime] = True
    return sorted(seen)


def primes_with_minus(form):
    """The primes at which the form's symbol is -1, rising."""
    return [prime for prime in primes_to_ask(form) if symbol_of(form, prime) == -1]


def has_zero_at_prime(form, prime):
    """Whether the form has a zero at a prime."""
    if form.n == 1:
        return False
    if form.n == 2:
        return is_square_at(-form.determinant, prime)
    if form.n == 3:
        return symbol_of(form, prime) == symbol_of_two(-1, -form.determinant, prime)
    if form.n == 4 and is_square_at(form.determinant, prime):
        return symbol_of(form, prime) == symbol_of_two(-1, -1, prime)
    # With five unknowns, as where one is put to four, there's always one.
    return True


def has_zero_at(form, place):
    """Whether the form has a zero at a place."""
    if place == 0:
        return count_above(form) > 0 and count_below(form) > 0
    return has_zero_at_prime(form, place)


def has_zero(form):
    """Whether the form is 0 at some row of whole numbers that aren't all 0."""
    # Where there's a zero at every place there's one of whole numbers. The primes that aren't asked
    # speak against none: with n 2, where all that are asked have one, the determinant is minus a square.
    return all([has_zero_at(form, place) for place in [0] + primes_to_ask(form)])


def makes_at(form, t, place):
    """Whether the form makes t, which isn't 0, at a place."""
    # At 0 too: the sign of - t is the other one, so there's a zero just if some ai has t's.
    return has_zero_at(Form(with_square(form.rows, -t)), place)


def makes(form, t):
    """Whether the form is t, which isn't 0, times a square but 0 at some row of whole numbers."""
    # A zero whose y is 0 is one of the form itself, and a form that has one makes every number.
    return has_zero(Form(with_square(form.rows, -t)))


def why_not_alike(first, second):
    """What tells two forms apart: which of the things that stay, and of the symbols the least prime; [] if nothing."""
    if first.n != second.n:
        return [1]
    if class_of(first) != class_of(second):
        return [2]
    if count_above(first) != count_above(second):
        return [3]
    primes = sorted(set(primes_with_minus(first)) ^ set(primes_with_minus(second)))
    return [4, primes[0]] if primes else []
