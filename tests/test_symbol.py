"""symbol: at each place, and what is no place."""

import unittest
from itertools import product

from tests.words import ask, form, rows_of, slant, stays, symbol, symbol_of, symbol_of_two

FAR = 9007199254740992
NO_PLACES = (1, 4, 6, 9, 15, 25, 49, 91, 529, 841, 961, 993, 996, 998, 999, 1000, 1001, 1009, 10007, 999983,
             9007199254740881, FAR - 1, FAR)


class Places(unittest.TestCase):
    def test_every_number_up_to_past_the_last_place(self):
        primes = [p for p in range(2, 1001) if all(p % k for k in range(2, p))]
        self.assertEqual(primes[-1], 997)
        for p in range(0, 1030):
            taken = p == 0 or p in primes
            self.assertEqual(ask(symbol(p)), [[0, 1] if taken else [-1]], p)

    def test_no_places_leave_all_as_it_was(self):
        told = [2, 1, 2, 0, 2, 2, 3]
        for p in NO_PLACES:
            self.assertEqual(ask(form(2, [3, 0, 3]), symbol(p), stays(), symbol(3)), [[0], [-1], told, [0, -1]], p)


class Known(unittest.TestCase):
    def check(self, n, numbers, places):
        given = ask(form(n, numbers), *[symbol(p) for p in places])
        self.assertEqual(given, [[0]] + [[0, sign] for sign in places.values()])

    def test_n_1_is_1_everywhere(self):
        for a in (1, -1, 2, -3, 10):
            self.check(1, [a], {0: 1, 2: 1, 3: 1, 5: 1, 997: 1})

    def test_at_0(self):
        for n in range(1, 5):
            for below in range(n + 1):
                numbers = slant(*[-2] * below + [3] * (n - below))
                self.check(n, numbers, {0: (1, 1, -1, -1, 1)[below]})

    def test_at_2(self):
        self.check(2, [-1, 0, -1], {2: -1, 3: 1})
        self.check(2, [2, 0, 3], {2: -1, 3: -1})
        self.check(2, [2, 0, 7], {2: 1, 7: 1})
        self.check(2, [5, 0, 2], {2: -1, 5: -1})
        self.check(2, [5, 0, 3], {2: 1, 3: -1, 5: -1})

    def test_at_odd_primes(self):
        self.check(2, [3, 0, 3], {0: 1, 2: -1, 3: -1, 5: 1, 7: 1, 997: 1})
        self.check(2, [5, 0, 5], {0: 1, 2: 1, 5: 1, 997: 1})
        self.check(3, slant(1, 1, -7), {0: 1, 2: 1, 7: 1, 997: 1})
        self.check(3, slant(3, 3, -7), {0: 1, 2: -1, 3: -1, 7: 1})
        self.check(4, slant(1, -2, 5, -10), {0: -1, 2: 1, 5: -1, 997: 1})
        self.check(3, [9, 8, 6, 3, -1, 9], {0: 1, 2: -1, 3: -1, 5: 1, 7: -1, 11: 1, 13: -1, 17: 1})

    def test_at_997(self):
        self.check(3, [10, 9, 1, -1, -10, -2], {2: -1, 991: 1, 997: -1})
        self.check(4, [-8, -2, -3, -10, 6, 10, 6, 1, -3, 2], {2: 1, 3: 1, 997: -1})
        self.check(2, [3, 0, 5], {997: 1})


class ByTheWords(unittest.TestCase):
    def test_two_numbers(self):
        numbers = (-10, -7, -5, -3, -2, -1, 1, 2, 3, 4, 6, 8, 9)
        for a, b in product(numbers, repeat=2):
            for p in (0, 2, 3, 5, 7):
                self.assertEqual(
                    ask(form(2, [a, 0, b]), symbol(p))[1], [0, symbol_of_two(a, b, p)], (a, b, p))

    def test_more_numbers(self):
        for n, numbers in (
                (3, [2, 1, 0, -3, 1, 5]), (3, [0, 3, 1, 0, -2, 0]), (3, [6, 3, -3, 6, 3, -9]),
                (4, [1, 2, 3, 4, 5, 6, 7, 8, 9, 10]), (4, [0, 3, 0, 0, 0, 0, 0, 6, 3, -6]),
                (4, slant(2, 3, 6, -5))):
            for p in (0, 2, 3, 5, 7, 11):
                self.assertEqual(
                    ask(form(n, numbers), symbol(p))[1], [0, symbol_of(rows_of(n, numbers), p)], (numbers, p))


if __name__ == "__main__":
    unittest.main()
