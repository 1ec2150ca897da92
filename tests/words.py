"""The document's words tried out one by one, by other ways than the program's, and lists of calls made short."""

from fractions import Fraction
from itertools import product
from math import isqrt

from fractionformsdesk.desk import answers


def form(n, numbers):
    return [0, n, len(numbers)] + list(numbers)


def other(n, numbers):
    return [1, n, len(numbers)] + list(numbers)


def stays():
    return [2]


def symbol(p):
    return [3, p]


def zero():
    return [4]


def zero_at(p):
    return [5, p]


def makes(t):
    return [6, t]


def makes_at(t, p):
    return [7, t, p]


def alike():
    return [8]


def found(t):
    return [9, t]


def value(numbers):
    return [10, len(numbers)] + list(numbers)


def ask(*calls):
    """Each call's answer, as a list of its own."""
    given = answers([number for call in calls for number in call])
    split = []
    position = 0
    while position < len(given):
        size = given[position]
        split.append(given[position + 1:position + 1 + size])
        position += 1 + size
    assert position == len(given), given
    return split


def ask_of(start, calls, most=25):
    """Each call's answer behind one that is taken, in as many lists as that needs, of at most so many calls."""
    given = []
    for first in range(0, len(calls), most):
        part = ask(start, *calls[first:first + most])
        assert part[0] == [0], start
        given += part[1:]
    return given


def slant(*numbers):
    """The numbers that tell a1 x1 x1 + ..."""
    told = []
    for i, number in enumerate(numbers):
        told += [number] + [0] * (len(numbers) - 1 - i)
    return told


def rows_of(n, numbers):
    rest = iter(numbers)
    rows = [[0] * n for _ in range(n)]
    for i in range(n):
        for j in range(i, n):
            rows[i][j] = rows[j][i] = next(rest)
    return rows


def value_at(rows, row):
    return sum(m * x * y for line, x in zip(rows, row) for m, y in zip(line, row))


def determinant(rows):
    """By splitting off with fractions, row by row."""
    rows = [[Fraction(m) for m in line] for line in rows]
    total = Fraction(1)
    while rows:
        k = next((k for k in range(len(rows)) if rows[k][0]), None)
        if k is None:
            return 0
        if k:
            rows[0], rows[k] = rows[k], rows[0]
            total = -total
        head = rows[0]
        total *= head[0]
        rows = [[m - line[0] / head[0] * h for m, h in zip(line, head)][1:] for line in rows[1:]]
    return int(total)


def order(number, p):
    count = 0
    while number % p == 0:
        number //= p
        count += 1
    return count


def has_zero_at(rows, p):
    """Rows of whole numbers, not all multiples of p, from power to power of p, till one surely goes on or none is left.

    One surely goes on if p divides the form there more than twice as often as it divides all its slopes.
    """
    n = len(rows)
    waiting = []
    for lead in range(n):
        for tail in product(range(p), repeat=n - 1 - lead):
            waiting.append(((0,) * lead + (1,) + tail, lead, p))
    while waiting:
        row, lead, power = waiting.pop()
        number = value_at(rows, row)
        if number == 0:
            return True
        if number % power:
            continue
        slopes = [2 * sum(m * x for m, x in zip(line, row)) for line in rows]
        if order(number, p) > 2 * min(order(slope, p) for slope in slopes if slope):
            return True
        steps = [range(1) if k == lead else range(0, p * power, power) for k in range(n)]
        for step in product(*steps):
            waiting.append((tuple(x + s for x, s in zip(row, step)), lead, p * power))
    return False


def symbol_of_two(a, b, p):
    if p == 0:
        return -1 if a < 0 and b < 0 else 1
    return 1 if has_zero_at([[a, 0, 0], [0, b, 0], [0, 0, -1]], p) else -1


def square_free(number):
    k = 2
    while k * k <= abs(number):
        while number % (k * k) == 0:
            number //= k * k
        k += 1
    return number


def diagonal(rows):
    """Some ai, without squares: the last unknown is split off first, or one that another is put to."""
    rows = [[Fraction(m) for m in line] for line in rows]
    found = []
    while rows:
        n = len(rows)
        reach = [[0] * n for _ in range(n)]
        for i in range(n):
            reach[i][i] = 1
        pick = next(step for step in sorted(product((-1, 0, 1), repeat=n), reverse=True)
                    if step[-1] and value_at(rows, step))
        reach[-1] = list(pick)
        rows = [[sum(reach[i][k] * rows[k][m] * reach[j][m] for k in range(n) for m in range(n))
                 for j in range(n)] for i in range(n)]
        last = rows[-1][-1]
        found.append(square_free(last.numerator * last.denominator))
        rows = [[rows[i][j] - rows[i][-1] * rows[-1][j] / last for j in range(n - 1)] for i in range(n - 1)]
    return found


def symbol_of(rows, p):
    numbers = diagonal(rows)
    result = 1
    for j in range(len(numbers)):
        for i in range(j):
            result *= symbol_of_two(numbers[i], numbers[j], p)
    return result


def zero_up_to(rows, size):
    """A zero whose numbers' sizes are at most size, or None."""
    span = [x for k in range(1, size + 1) for x in (k, -k)]
    for row in product([0] + span, repeat=len(rows)):
        if any(row) and value_at(rows, row) == 0:
            return row
    return None


def put_to(rows, t):
    """The form with - t y y put to it."""
    return [line + [0] for line in rows] + [[0] * len(rows) + [-t]]


def primes_of(number):
    """The primes that divide a number."""
    return [p for p in range(2, abs(number) + 1) if number % p == 0 and all(p % k for k in range(2, p))]


def primes_that_matter(rows):
    """2 and the primes that divide some ai: where none does, every symbol is 1."""
    return sorted({2}.union(*[primes_of(a) for a in diagonal(rows)]))


def signs(rows):
    """How many ai are above 0, and how many below."""
    above = len([a for a in diagonal(rows) if a > 0])
    return above, len(rows) - above


def is_made_up_to(rows, t, size):
    """Whether the form is t times a square but 0 at some row whose numbers' sizes are at most size."""
    for row in product(range(size + 1), *[range(-size, size + 1)] * (len(rows) - 1)):
        times, rest = divmod(value_at(rows, row), t)
        if rest == 0 and times > 0 and isqrt(times) ** 2 == times:
            return True
    return False


def is_made_at(rows, t, p):
    if p == 0:
        return signs(rows)[0 if t > 0 else 1] > 0
    return has_zero_at(put_to(rows, t), p)


def first_rows(rows):
    """By the form's number: the first row of the least size at which it's that, of the sizes that found goes up to."""
    n = len(rows)
    size = (40, 40, 10, 5)[n - 1]

    def rank(row):
        return max(abs(x) for x in row), [2 * x - 1 if x > 0 else -2 * x for x in row]

    first = {}
    for row in product(range(-size, size + 1), repeat=n):
        number = value_at(rows, row)
        if any(row) and (number not in first or rank(row) < rank(first[number])):
            first[number] = row
    return first


def in_other_unknowns(rows, table):
    """The form's rows when each unknown is a sum of the others' times the table's numbers."""
    span = range(len(rows))
    return [[sum(table[k][i] * rows[k][m] * table[m][j] for k in span for m in span) for j in span] for i in span]


def told(rows):
    """The numbers that tell a form."""
    return [m for i, line in enumerate(rows) for m in line[i:]]
