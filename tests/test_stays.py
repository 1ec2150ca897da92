"""stays: n, the class, the signs, and the primes at which the symbol is -1."""

import unittest
from itertools import product

from tests.words import (
    ask, determinant, diagonal, form, other, rows_of, slant, square_free, stays, symbol, symbol_of)

ZEROS_ON_THE_SLANT = (
    (2, [0, 1, 0]), (2, [0, -3, 0]), (2, [0, 2, 7]), (2, [7, 2, 0]),
    (3, [0, 1, 2, 0, 3, 0]), (3, [0, 0, 1, 5, 0, 0]), (3, [0, 1, 0, 0, 0, -6]), (3, [0, 4, 2, 0, -3, 5]),
    (3, [1, 1, 0, 1, 1, 1]),
    (4, [0, 1, 0, 0, 0, 0, 0, 0, 1, 0]), (4, [0, 1, 1, 1, 0, 1, 1, 0, 1, 0]),
    (4, [0, 0, 0, 3, 0, -2, 0, 0, 0, 0]), (4, [0, 2, 3, 5, 0, 1, 0, 0, 7, -10]),
    (4, [1, 1, 2, 0, 1, 0, 3, 2, 0, -1]))

OF_ALL_SORTS = (
    (1, [7]), (1, [-8]), (2, [1, 2, 1]), (2, [5, 3, -2]), (2, [-6, 1, -9]), (2, [10, 10, -10]),
    (3, [1, 2, 3, 4, 5, 6]), (3, [9, 8, 6, 3, -1, 9]), (3, [-2, 1, 0, -3, 1, -5]), (3, [2, 1, 1, 2, 1, 2]),
    (4, [2, 1, 0, 0, 2, 1, 0, 2, 1, 2]), (4, [3, 1, 1, 1, 3, 1, 1, 3, 1, 3]),
    (4, [-4, 1, 2, 3, 5, 1, 0, -6, 2, 7]), (4, [1, -3, 2, 0, 1, 4, 4, -1, 2, 5]))


class Known(unittest.TestCase):
    def check(self, numbers, told):
        self.assertEqual(ask(form(len(numbers), slant(*numbers)), stays()), [[0], told])

    def test_x_x_at_the_beginning(self):
        self.assertEqual(ask(stays()), [[1, 1, 1, 0, 0]])

    def test_n_1(self):
        self.check([1], [1, 1, 1, 0, 0])
        self.check([-1], [1, -1, 0, 1, 0])
        self.check([8], [1, 2, 1, 0, 0])
        self.check([-9], [1, -1, 0, 1, 0])
        self.check([10], [1, 10, 1, 0, 0])

    def test_no_prime(self):
        self.check([1, 1], [2, 1, 2, 0, 0])
        self.check([1, -10], [2, -10, 1, 1, 0])
        self.check([1, 1, -7], [3, -7, 2, 1, 0])
        self.check([1, 1, 1, 1], [4, 1, 4, 0, 0])

    def test_one_prime(self):
        # The symbol of -1 and -1 is -1 at 0 and at 2 alone, that of -1 and -3 at 0 and at 3.
        self.check([-1, -1], [2, 1, 0, 2, 1, 2])
        self.check([-1, -3], [2, 3, 0, 2, 1, 3])
        self.check([-1, -1, 1, 1], [4, 1, 2, 2, 1, 2])

    def test_several_primes(self):
        self.check([3, 3], [2, 1, 2, 0, 2, 2, 3])
        self.check([2, 5], [2, 10, 2, 0, 2, 2, 5])
        self.check([-10, -3], [2, 30, 0, 2, 3, 2, 3, 5])
        self.assertEqual(ask(form(3, [9, 8, 6, 3, -1, 9]), stays())[1], [3, -546, 2, 1, 4, 2, 3, 7, 13])
        self.assertEqual(
            ask(form(4, [-5, 1, 5, -2, 6, 7, -9, -2, -10, 4]), stays())[1],
            [4, -2145, 1, 3, 5, 2, 3, 5, 11, 13])

    def test_great_primes(self):
        self.assertEqual(ask(form(3, [10, 9, 1, -1, -10, -2]), stays())[1], [3, -997, 2, 1, 2, 2, 997])
        self.assertEqual(
            ask(form(4, [-10, 0, 9, -9, 8, 6, 7, -10, -9, 10]), stays())[1], [4, 46093, 2, 2, 1, 46093])

    def test_all_below(self):
        self.check([-1, -1, -1], [3, -1, 0, 3, 1, 2])
        self.check([-1, -1, -1, -1], [4, 1, 0, 4, 0])

    def test_class_without_squares(self):
        self.check([4, 9], [2, 1, 2, 0, 0])
        self.check([10, 10, -10], [3, -10, 2, 1, 0])
        self.check([6, 10], [2, 15, 2, 0, 0])


class ByTheWords(unittest.TestCase):
    def check(self, n, numbers):
        rows = rows_of(n, numbers)
        some = diagonal(rows)
        with self.subTest(n=n, numbers=numbers):
            told = ask(form(n, numbers), stays())[1]
            above = len([a for a in some if a > 0])
            self.assertEqual(told[:4], [n, square_free(determinant(rows)), above, n - above])
            primes = told[5:]
            self.assertEqual(told[4], len(primes))
            self.assertEqual(primes, sorted(set(primes)))
            for p in (2, 3, 5, 7, 11):
                self.assertEqual(p in primes, symbol_of(rows, p) == -1)
            # The symbols of two numbers at all places, multiplied, are 1.
            below = n - above
            self.assertEqual((len(primes) + below * (below - 1) // 2) % 2, 0)

    def test_zeros_on_the_slant(self):
        for n, numbers in ZEROS_ON_THE_SLANT:
            self.check(n, numbers)

    def test_forms_of_all_sorts(self):
        for n, numbers in OF_ALL_SORTS:
            self.check(n, numbers)

    def test_two_unknowns_one_by_one(self):
        for a, b in product((-10, -6, -5, -3, -2, -1, 1, 2, 3, 7, 9), repeat=2):
            self.check(2, [a, 0, b])

    def test_the_symbols_asked_one_by_one(self):
        for n, numbers in OF_ALL_SORTS + ZEROS_ON_THE_SLANT:
            places = [p for p in range(2, 40) if all(p % k for k in range(2, p))]
            given = ask(form(n, numbers), stays(), *[symbol(p) for p in places])
            found = [p for p, answer in zip(places, given[2:]) if answer == [0, -1]]
            self.assertEqual(found, [p for p in given[1][5:] if p < 40])


class Alike(unittest.TestCase):
    def test_other_unknowns_change_nothing(self):
        for n, first, second in (
                (2, [1, 0, 1], [5, 0, 5]), (2, [1, 0, 1], [2, 0, 2]), (2, [1, 0, 1], [2, 3, 5]),
                (2, [1, 0, -1], [0, 1, 0]), (2, [3, 0, -3], [0, 1, 0]), (2, [7, 0, -2], [-2, 0, 7]),
                (3, slant(1, 2, -3), [1, 1, 1, 3, 3, 0]), (3, slant(5, -1, 6), slant(6, 5, -1)),
                (4, slant(1, -1, 2, 3), [0, 1, 0, 0, 0, 0, 0, 2, 2, 5])):
            with self.subTest(first=first, second=second):
                one, two = ask(form(n, first), stays(), form(n, second), stays())[1::2]
                self.assertEqual(one, two)

    def test_other_is_not_asked(self):
        self.assertEqual(ask(other(2, [3, 0, 3]), stays()), [[0], [1, 1, 1, 0, 0]])


if __name__ == "__main__":
    unittest.main()
