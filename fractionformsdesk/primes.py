"""Prime numbers, and numbers taken apart by them."""

LAST_PLACE = 1000


def prime_divisors(number):
    """The primes that divide a number but 0, rising."""
    left = abs(number)
    found = []
    divisor = 2
    while divisor * divisor <= left:
        if left % divisor == 0:
            found.append(divisor)
        while left % divisor == 0:
            left = left // divisor
        divisor += 1
    if left > 1:
        found.append(left)
    return found


def is_place(number):
    """Whether a number is 0 or a prime, and not above LAST_PLACE."""
    # The bound comes first, since a number far above it would be slow to take apart.
    if number < 0 or number > LAST_PLACE:
        return False
    return number == 0 or prime_divisors(number) == [number]


def order_at(number, prime):
    """How often a prime divides a number but 0."""
    left = number
    order = 0
    while left % prime == 0:
        left = left // prime
        order += 1
    return order


def unit_at(number, prime):
    """What is left of a number but 0 when a prime is divided out of it."""
    left = number
    while left % prime == 0:
        left = left // prime
    return left


def without_squares(number):
    """The number of the same sign that a number but 0 is times a square, divided by no square above 1."""
    rest = 1 if number > 0 else -1
    for prime in prime_divisors(number):
        if order_at(number, prime) % 2 == 1:
            rest = rest * prime
    return rest
