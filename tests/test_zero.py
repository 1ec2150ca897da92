"""zero and zero at: forms that have a zero, and forms that have none."""

import unittest
from itertools import combinations_with_replacement, product

from tests.test_symbol import NO_PLACES
from tests.words import ask, form, has_zero_at, rows_of, slant, stays, zero, zero_at, zero_up_to

# n, the numbers, and a place at which there's none.
WITHOUT = (
    (1, [1], 0), (1, [-10], 2), (1, [7], 7),
    (2, [1, 0, 1], 0), (2, [1, 0, -2], 2), (2, [3, 1, -2], 2), (2, [-2, 0, 6], 5), (2, [10, 0, -9], 7),
    (3, slant(1, 1, 1), 0), (3, slant(1, 1, -7), 7), (3, slant(1, 1, -7), 2), (3, slant(1, 1, -3), 3),
    (3, slant(1, -2, -5), 5), (3, slant(2, 3, -10), 3), (3, [2, 1, 0, 2, 0, -4], 2), (3, slant(-1, -1, 3), 2),
    (4, slant(1, 1, 1, 1), 0), (4, slant(-2, -3, -5, -7), 0), (4, slant(1, 1, -3, -3), 3), (4, slant(1, 1, 1, -7), 2),
    (4, slant(1, -2, 5, -10), 5), (4, slant(1, 1, -7, -7), 7), (4, [2, 1, 0, 0, 2, 0, 0, -4, -2, -4], 2))

# n, the numbers, and a zero.
WITH = (
    (2, [1, 0, -1], (1, 1)), (2, [0, 1, 0], (1, 0)), (2, [0, 3, 7], (1, 0)), (2, [2, 0, -8], (2, 1)),
    (2, [1, 1, -8], (2, 1)),
    (3, slant(1, 1, -1), (3, 4, 5)), (3, slant(1, 1, -2), (1, 1, 1)), (3, slant(1, 1, -5), (1, 2, 1)),
    (3, slant(2, 3, -5), (1, 1, 1)), (3, [0, 1, 0, 0, 0, 7], (1, 0, 0)), (3, [3, 1, -2, 1, 1, 1], (1, 0, 1)),
    (4, slant(1, 1, 1, -1), (1, 0, 0, 1)), (4, slant(1, 1, 1, -6), (1, 1, 2, 1)), (4, slant(1, 1, -2, -3), (1, 1, 1, 0)),
    (4, slant(3, 3, -7, -5), (2, 0, 1, 1)), (4, [0, 1, 0, 0, 0, 0, 0, 5, 1, 9], (0, 1, 0, 0)))


def number_at(n, numbers, row):
    rows = rows_of(n, numbers)
    return sum(rows[i][j] * row[i] * row[j] for i, j in product(range(n), repeat=2))


class Known(unittest.TestCase):
    def test_x_x_at_the_beginning(self):
        self.assertEqual(ask(zero(), zero_at(0), zero_at(2), zero_at(3), zero_at(997)), [[0]] * 5)

    def test_without(self):
        for n, numbers, place in WITHOUT:
            self.assertEqual(ask(form(n, numbers), zero(), zero_at(place)), [[0]] * 3, (numbers, place))

    def test_with(self):
        for n, numbers, row in WITH:
            with self.subTest(numbers=numbers):
                self.assertEqual(number_at(n, numbers, row), 0)
                places = [zero_at(p) for p in (0, 2, 3, 5, 7, 11, 997)]
                self.assertEqual(ask(form(n, numbers), zero(), *places), [[0]] + [[1]] * 8)

    def test_a_zero_at_the_primes_that_divide_but_none(self):
        # The first has zeros where x x - 17 y y has them; -7 is a square at 2 and at 11, not at 3 and 7.
        self.assertEqual(
            ask(form(2, [8, 1, -2]), zero(), zero_at(0), zero_at(2), zero_at(17)), [[0], [0], [1], [1], [0]])
        self.assertEqual(
            ask(form(2, [1, 0, 7]), zero(), zero_at(0), zero_at(2), zero_at(3), zero_at(7), zero_at(11)),
            [[0], [0], [0], [1], [0], [0], [1]])

    def test_signs_on_their_own(self):
        self.assertEqual(ask(form(3, slant(1, 1, 1)), zero_at(0), zero_at(2), zero_at(3)), [[0], [0], [0], [1]])
        self.assertEqual(ask(form(4, slant(1, 1, 1, 1)), zero_at(0), zero_at(2), zero_at(3)), [[0], [0], [0], [1]])
        self.assertEqual(ask(form(4, slant(1, 1, 1, 2)), zero(), zero_at(0), zero_at(2)), [[0], [0], [0], [1]])

    def test_at_997(self):
        self.assertEqual(ask(form(3, [10, 9, 1, -1, -10, -2]), zero_at(997), zero()), [[0], [0], [0]])
        self.assertEqual(ask(form(2, [1, 0, 1]), zero_at(997)), [[0], [1]])
        self.assertEqual(ask(form(2, [1, 0, -2]), zero_at(997)), [[0], [0]])


class Refused(unittest.TestCase):
    def test_no_places(self):
        told = [3, -7, 2, 1, 0]
        for p in NO_PLACES:
            self.assertEqual(ask(zero_at(p)), [[-1]], p)
            self.assertEqual(
                ask(form(3, slant(1, 1, -7)), zero_at(p), stays(), zero_at(7)), [[0], [-1], told, [0]], p)


class ByTheWords(unittest.TestCase):
    def check_at(self, n, numbers, places):
        rows = rows_of(n, numbers)
        given = ask(form(n, numbers), *[zero_at(p) for p in places])
        for p, answer in zip(places, given[1:]):
            self.assertEqual(answer, [1 if has_zero_at(rows, p) else 0], (numbers, p))

    def test_zero_at_two_unknowns(self):
        for numbers in product((-9, -3, 0, 1, 2, 7), (-1, 0, 3), (-10, -2, 0, 4, 5)):
            if numbers[0] * numbers[2] != numbers[1] ** 2:
                self.check_at(2, numbers, (2, 3, 5, 7, 11))

    def test_zero_at_three_unknowns(self):
        for numbers in product((-1, 3, 5), (-7, 2, 6), (-10, 1, 9)):
            self.check_at(3, slant(*numbers), (2, 3, 5, 7))
        for numbers in ([0, 3, 1, 0, -2, 0], [6, 3, -3, 6, 3, -9], [2, 1, 1, 2, 1, 2], [5, -2, 7, 4, 0, 10]):
            self.check_at(3, numbers, (2, 3, 5, 7, 11))

    def test_zero_at_four_unknowns(self):
        for numbers in (
                slant(1, 1, 3, 3), slant(1, -2, 5, -10), slant(1, 1, 1, 1), slant(1, 1, 1, 2), slant(1, 2, 3, 6),
                slant(1, -3, 5, 10), slant(-1, 3, 7, -5), slant(2, -3, 6, -9), slant(1, 1, -7, 7),
                [2, 1, 0, 0, 2, 1, 0, 2, 1, 2], [2, 1, 0, 0, 2, 0, 0, 6, 3, 6], [0, 1, 1, 1, 0, 1, 1, 0, 1, 0]):
            self.check_at(4, numbers, (2, 3, 5))

    def test_zero_two_unknowns(self):
        for a, b, c in product(range(-4, 5), repeat=3):
            if a * c != b * b:
                # With a zero, b b - a c is s s, s at most 5, and a row s - b, a is one (1, 0 where a is 0).
                found = zero_up_to([[a, b], [b, c]], 9)
                self.assertEqual(ask(form(2, [a, b, c]), zero())[1], [1 if found else 0], (a, b, c))

    def test_zero_three_unknowns(self):
        # Of numbers as small as these, a form that has a zero has one of a size up to 10.
        for a, b, c in combinations_with_replacement((1, 2, 3, 5, 6, 7, 10), 3):
            for last in (-a, -b, -c):
                numbers = slant(*[last if -m == last else m for m in (a, b, c)])
                found = zero_up_to(rows_of(3, numbers), 10)
                self.assertEqual(ask(form(3, numbers), zero())[1], [1 if found else 0], numbers)

    def test_zero_four_unknowns(self):
        for numbers in combinations_with_replacement((-7, -3, -1, 1, 2, 5), 4):
            rows = rows_of(4, slant(*numbers))
            given = ask(form(4, slant(*numbers)), zero())[1]
            if given == [1]:
                self.assertIsNotNone(zero_up_to(rows, 7), numbers)
            elif min(numbers) < 0 < max(numbers):
                self.assertFalse(all(has_zero_at(rows, p) for p in (2, 3, 5, 7)), numbers)


if __name__ == "__main__":
    unittest.main()
