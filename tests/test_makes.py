"""makes and makes at: numbers that a form makes, everywhere and at a place, and numbers that it doesn't."""

import unittest
from itertools import product
from math import isqrt

from tests.test_symbol import NO_PLACES
from tests.words import (
    ask, ask_of, determinant, form, is_made_at, is_made_up_to, makes, makes_at, primes_of, rows_of, slant, stays,
    value_at, zero, zero_at)

FAR = 9007199254740992
ALL = [t for t in range(-1000, 1001) if t != 0]
REFUSED = (0, 1001, -1001, 1002, 4004, -999999, FAR, -FAR)

# n, the numbers, and how far rows are to be tried: far enough for each t of SMALL that is made.
FORMS = (
    (1, [1], 12), (1, [-3], 12), (1, [8], 12), (1, [10], 12),
    (2, [1, 0, 1], 40), (2, [3, 0, 3], 40), (2, [1, 0, -2], 40), (2, [2, 1, 3], 40), (2, [-5, 2, -3], 40),
    (2, [0, 1, 0], 40), (2, [4, 3, -6], 40),
    (3, slant(1, 1, 1), 9), (3, slant(1, 1, -7), 9), (3, slant(3, 3, -7), 9), (3, slant(-1, -2, -5), 9),
    (3, [2, 1, 0, 2, 1, 2], 9), (3, [0, 3, 1, 0, -2, 0], 9), (3, slant(1, -3, -6), 14), (3, slant(5, 5, 10), 9),
    (4, slant(1, 1, 1, 1), 6), (4, slant(-1, -2, -3, -6), 6), (4, slant(1, 1, -7, -7), 8), (4, slant(1, -2, 5, -10), 6),
    (4, [2, 1, 0, 0, 2, 1, 0, 2, 1, 2], 6))
SMALL = (1, -1, 2, -2, 3, -3, 5, -5, 6, 7, -7, 8, 10, -10, 12, 14, -14, 15, -18, 21, 28, -30)


def is_square(number):
    return number >= 0 and isqrt(number) ** 2 == number


def order(number, p):
    return 0 if number % p else 1 + order(number // p, p)


class Everywhere(unittest.TestCase):
    def check(self, n, numbers, is_made, asked=tuple(ALL)):
        given = ask_of(form(n, numbers), [makes(t) for t in asked])
        for t, answer in zip(asked, given):
            self.assertEqual(answer, [1 if is_made(t) else 0], (numbers, t))

    def test_x_x_at_the_beginning(self):
        self.assertEqual(ask(makes(1), makes(961), makes(2), makes(-1), makes(900)), [[1], [1], [0], [0], [1]])

    def test_one_unknown(self):
        # a x x is t times a square just if a t is a square.
        for a in (1, -1, 2, -3, 4, -6, 8, -9, 10):
            self.check(1, [a], lambda t, a=a: is_square(a * t))

    def test_one_unknown_where_a_doesnt_divide_t(self):
        self.assertEqual(ask(form(1, [8]), makes(2), makes(18), makes(8), makes(4), makes(-2)),
                         [[0], [1], [1], [1], [0], [0]])
        self.assertEqual(ask(form(1, [-9]), makes(-1), makes(-4), makes(1), makes(-3)), [[0], [1], [1], [0], [0]])

    def test_two_squares(self):
        self.assertEqual(ask(form(2, [1, 0, 1]), makes(5), makes(3)), [[0], [1], [0]])
        self.check(2, [1, 0, 1], lambda t: t > 0 and all(p % 4 != 3 or order(t, p) % 2 == 0 for p in primes_of(t)))

    def test_two_squares_told_otherwise(self):
        # 2 x x + 2 y y makes 1 at 1, 1, and 5 x x + 5 y y at 1, 2, though neither is 1 at any row.
        self.assertEqual(ask(form(2, [2, 0, 2]), makes(1), makes(5), makes(3)), [[0], [1], [1], [0]])
        self.assertEqual(ask(form(2, [5, 0, 5]), makes(1), makes(2), makes(6)), [[0], [1], [1], [0]])

    def test_a_square_less_two_squares_of_one(self):
        self.check(
            2, [1, 0, -2], lambda t: all(p % 8 not in (3, 5) or order(t, p) % 2 == 0 for p in primes_of(t)))

    def test_three_squares(self):
        self.assertEqual(ask(form(3, slant(1, 1, 1)), makes(3), makes(7)), [[0], [1], [0]])

        def is_sum(t):
            return t > 0 and t // 4 ** (order(t, 2) // 2) % 8 != 7
        self.check(3, slant(1, 1, 1), is_sum)
        self.check(3, slant(-1, -1, -1), lambda t: is_sum(-t))

    def test_two_squares_and_twice_one(self):
        self.check(3, slant(1, 1, 2), lambda t: t > 0 and t // 4 ** (order(t, 2) // 2) % 16 != 14)

    def test_four_squares(self):
        self.check(4, slant(1, 1, 1, 1), lambda t: t > 0)
        self.check(4, slant(-1, -1, -1, -1), lambda t: t < 0)
        self.check(4, slant(3, 5, 7, 10), lambda t: t > 0, (1, -1, 2, 7, -7, 1000, -1000))

    def test_four_unknowns_of_both_signs_make_all(self):
        # It has no zero, by 7, and still makes each number.
        self.assertEqual(ask(form(4, slant(1, 1, -7, -7)), zero(), zero_at(7)), [[0], [0], [0]])
        self.check(4, slant(1, 1, -7, -7), lambda t: True)

    def test_with_a_zero_all_are_made(self):
        for n, numbers in ((2, [0, 1, 0]), (2, [9, 0, -4]), (3, slant(1, 1, -2)), (3, [0, 5, 0, 0, 0, 7])):
            self.check(n, numbers, lambda t: True)

    def test_the_last_numbers(self):
        for n, numbers, above, below in (
                (1, [10], 1, 0), (1, [-10], 0, 1), (1, [5], 0, 0), (2, [1, 0, 1], 1, 0), (2, [-1, 0, -1], 0, 1),
                (2, [3, 0, 3], 0, 0), (2, [0, 1, 0], 1, 1), (3, slant(1, 1, 1), 1, 0), (3, slant(-1, -1, -1), 0, 1),
                (3, slant(1, 1, -5), 1, 1), (4, slant(1, 1, 1, 1), 1, 0), (4, slant(-1, -1, -1, -1), 0, 1),
                (4, slant(1, 1, -3, -3), 1, 1)):
            self.assertEqual(ask(form(n, numbers), makes(1000), makes(-1000)), [[0], [above], [below]], numbers)

    def test_refused(self):
        for t in REFUSED:
            self.assertEqual(ask(makes(t), stays()), [[-1], [1, 1, 1, 0, 0]], t)
            for n, numbers in ((1, [7]), (2, [0, 1, 0]), (3, slant(1, 1, -1)), (4, slant(1, 1, 1, 1))):
                self.assertEqual(ask(form(n, numbers), makes(t), makes(7), makes(7)), [[0], [-1], [1], [1]], t)

    def test_by_the_words(self):
        for n, numbers, size in FORMS:
            rows = rows_of(n, numbers)
            for t, answer in zip(SMALL, ask_of(form(n, numbers), [makes(t) for t in SMALL])):
                places = [0] + sorted({2, *primes_of(t), *primes_of(determinant(rows))})
                with self.subTest(numbers=numbers, t=t):
                    if answer == [1]:
                        self.assertTrue(is_made_up_to(rows, t, size))
                    else:
                        self.assertEqual(answer, [0])
                        self.assertFalse(all(is_made_at(rows, t, p) for p in places))


class AtAPlace(unittest.TestCase):
    def check(self, n, numbers, told):
        given = ask_of(form(n, numbers), [makes_at(t, p) for t, p, is_made in told])
        self.assertEqual(given, [[is_made] for t, p, is_made in told], numbers)

    def test_x_x_at_the_beginning(self):
        self.assertEqual(ask(makes_at(1, 0), makes_at(-1, 0), makes_at(2, 7), makes_at(3, 7)), [[1], [0], [1], [0]])

    def test_at_0(self):
        for n in range(1, 5):
            for below in range(n + 1):
                numbers = slant(*[-2] * below + [3] * (n - below))
                is_above, is_below = int(below < n), int(below > 0)
                self.check(n, numbers, [
                    (1, 0, is_above), (7, 0, is_above), (1000, 0, is_above), (-1, 0, is_below), (-7, 0, is_below),
                    (-1000, 0, is_below)])

    def test_at_2(self):
        self.check(1, [1], [(1, 2, 1), (17, 2, 1), (-7, 2, 1), (4, 2, 1), (2, 2, 0), (3, 2, 0), (5, 2, 0), (-1, 2, 0)])
        self.check(2, [1, 0, 1], [(5, 2, 1), (2, 2, 1), (-3, 2, 1), (3, 2, 0), (6, 2, 0), (-1, 2, 0), (12, 2, 0)])
        self.check(
            3, slant(1, 1, 1), [(7, 2, 0), (-1, 2, 0), (28, 2, 0), (-4, 2, 0), (1, 2, 1), (14, 2, 1), (-7, 2, 1)])
        self.check(4, slant(1, 1, 1, 1), [(7, 2, 1), (-1, 2, 1), (1000, 2, 1), (2, 2, 1)])

    def test_at_odd_primes(self):
        self.check(1, [3], [(3, 3, 1), (12, 3, 1), (6, 3, 0), (1, 3, 0), (-3, 3, 0), (3, 5, 1), (2, 5, 1), (1, 5, 0)])
        self.check(2, [1, 0, 1], [(3, 3, 0), (21, 7, 0), (21, 5, 1), (9, 3, 1), (-1, 3, 1), (-1, 7, 1), (5, 5, 1)])
        self.check(2, [1, 0, 3], [(2, 3, 0), (1, 3, 1), (3, 3, 1), (6, 3, 0), (-3, 3, 0), (5, 5, 0), (25, 5, 1)])
        self.check(
            3, slant(1, 1, -7), [(7, 7, 0), (-7, 7, 1), (1, 7, 1), (-1, 7, 1), (14, 7, 0), (21, 7, 1), (3, 3, 1)])
        self.check(4, slant(1, 1, -7, -7), [(7, 7, 1), (-7, 7, 1), (1, 7, 1), (-1, 7, 1), (49, 7, 1), (3, 997, 1)])

    def test_at_997(self):
        # It has no zero at 997 and its determinant is -997, so 997 times a square is all that it doesn't make there.
        numbers = [10, 9, 1, -1, -10, -2]
        self.check(3, numbers, [(997, 997, 0), (-997, 997, 0), (1, 997, 1), (2, 997, 1), (-996, 997, 1), (997, 3, 1)])
        self.check(1, [1], [(4, 997, 1), (-1, 997, 1), (2, 997, 0), (997, 997, 0)])

    def test_refused(self):
        for t, p in [(t, 3) for t in REFUSED] + [(5, p) for p in NO_PLACES] + list(product(REFUSED, NO_PLACES)):
            self.assertEqual(ask(makes_at(t, p), stays()), [[-1], [1, 1, 1, 0, 0]], (t, p))
        for t, p in ((0, 0), (0, 2), (1001, 0), (-1001, 997), (5, 1), (5, 1009), (0, 4), (FAR, FAR)):
            self.assertEqual(
                ask(form(2, [1, 0, 1]), makes_at(t, p), makes_at(3, 3), makes_at(5, 3), makes(5)),
                [[0], [-1], [0], [1], [1]], (t, p))

    def test_t_and_p_in_this_order(self):
        self.assertEqual(ask(form(1, [3]), makes_at(3, 2), makes_at(2, 3)), [[0], [1], [0]])
        self.assertEqual(ask(makes_at(-4, 5), makes_at(4, 5), makes_at(5, 4)), [[1], [1], [-1]])

    def test_by_the_words(self):
        for n, numbers, size in FORMS:
            rows = rows_of(n, numbers)
            asked = list(product(SMALL, (0, 2, 3, 5, 7) if n < 4 else (0, 2, 3, 5)))
            given = ask_of(form(n, numbers), [makes_at(t, p) for t, p in asked])
            for (t, p), answer in zip(asked, given):
                self.assertEqual(answer, [1 if is_made_at(rows, t, p) else 0], (numbers, t, p))

    def test_a_number_of_the_form_is_made_at_each_place(self):
        for n, numbers, size in FORMS:
            row = (3, -2, 1, 2)[:n]
            t = value_at(rows_of(n, numbers), row)
            if t != 0:
                places = (0, 2, 3, 5, 7, 11, 13, 997)
                given = ask_of(form(n, numbers), [makes(t)] + [makes_at(t, p) for p in places])
                self.assertEqual(given, [[1]] * 9, (numbers, t))


if __name__ == "__main__":
    unittest.main()
