"""alike: forms that are alike though told otherwise, and the first thing that tells others apart."""

import unittest
from itertools import combinations

from tests.words import (
    alike, ask, determinant, form, found, in_other_unknowns, makes, other, primes_that_matter, rows_of, signs, slant,
    square_free, stays, symbol, symbol_of, told, value)

FAR = 9007199254740992

FORMS = (
    (1, [1]), (1, [4]), (1, [-1]), (1, [2]), (1, [8]), (1, [-10]),
    (2, [1, 0, 1]), (2, [2, 0, 2]), (2, [3, 0, 3]), (2, [-1, 0, -1]), (2, [-3, 0, -3]), (2, [7, 0, 7]), (2, [2, 3, 5]),
    (2, [0, 1, 0]), (2, [6, 0, -6]), (2, [1, 0, -5]), (2, [3, 6, -3]), (2, [2, 0, -10]), (2, [-1, 0, 5]),
    (2, [1, 0, 6]), (2, [2, 0, 3]), (2, [-2, -8, 3]), (2, [9, 4, -6]), (2, [9, -10, -6]), (2, [6, -10, -9]),
    (3, slant(1, 1, 1)), (3, slant(1, -1, -1)), (3, slant(3, 3, 1)), (3, slant(2, 3, 6)), (3, slant(-1, -3, 3)),
    (3, slant(1, 1, -1)), (3, slant(1, 1, -7)), (3, slant(3, 3, -7)), (3, [2, 1, 0, 2, 1, 2]), (3, [0, 1, 0, 0, 0, 7]),
    (4, slant(1, 1, 1, 1)), (4, slant(1, 2, 3, 6)), (4, slant(1, 1, 3, 3)), (4, slant(1, 1, -1, -1)),
    (4, slant(1, 1, -3, -3)), (4, slant(-1, -1, -1, -1)), (4, slant(1, -2, 5, -10)), (4, slant(1, 1, -7, -7)),
    (4, [0, 1, 0, 0, 0, 0, 0, 0, 1, 0]), (4, [2, 1, 0, 0, 2, 1, 0, 2, 1, 2]), (4, slant(1, 1, 1, 5)))


def compare(first, second):
    """What alike answers, whichever of the two is the other form."""
    one = ask(form(*first), other(*second), alike())
    two = ask(other(*first), form(*second), alike())
    assert one == two and one[:2] == [[0], [0]], (first, second, one, two)
    return one[2]


def tables(n, step, count):
    """Some tables of -1, 0 and 1 whose determinant isn't 0."""
    for k in range(count):
        number = k * step
        digits = []
        for _ in range(n * n):
            digits.append(number % 3 - 1)
            number //= 3
        table = [digits[n * i:n * i + n] for i in range(n)]
        if determinant(table) != 0:
            yield table


class Known(unittest.TestCase):
    def test_x_x_at_the_beginning(self):
        self.assertEqual(ask(alike()), [[1]])
        self.assertEqual(ask(form(1, [4]), alike()), [[0], [1]])
        self.assertEqual(ask(form(1, [2]), alike()), [[0], [0, 2]])
        self.assertEqual(ask(form(2, [1, 0, 1]), alike()), [[0], [0, 1]])
        self.assertEqual(ask(other(1, [9]), alike()), [[0], [1]])
        self.assertEqual(ask(other(1, [-1]), alike()), [[0], [0, 2]])
        self.assertEqual(ask(other(3, slant(1, 1, 1)), alike()), [[0], [0, 1]])

    def test_told_otherwise(self):
        for n, first, second in (
                (1, [2], [8]), (1, [-1], [-9]), (2, [1, 0, 1], [2, 0, 2]), (2, [1, 0, 1], [5, 0, 5]),
                (2, [1, 0, 1], [2, 3, 5]), (2, [3, 0, 3], [6, 0, 6]), (2, [7, 0, -2], [-2, 0, 7]),
                (2, [0, 1, 0], [7, 0, -7]), (3, slant(1, 2, -3), [1, 1, 1, 3, 3, 0]),
                (3, slant(1, 1, 3), slant(2, 8, 3)), (4, slant(1, 1, 1, 1), slant(3, 3, 3, 3)),
                (4, slant(1, 1, 1, 1), slant(7, 7, 7, 7)), (4, slant(1, -1, 2, 3), [0, 1, 0, 0, 0, 0, 0, 2, 2, 5])):
            self.assertEqual(compare((n, first), (n, second)), [1], (first, second))

    def test_n(self):
        for first, second in (
                ((1, [1]), (2, [1, 0, 1])), ((2, [1, 0, 1]), (3, slant(1, 1, 1))),
                ((3, slant(1, 1, 1)), (4, slant(1, 1, 1, 1))),
                ((1, [1]), (4, slant(1, 1, 1, 1))), ((1, [-3]), (2, [3, 0, 3])),
                ((2, [-1, 0, -1]), (4, slant(2, 3, 5, 7)))):
            self.assertEqual(compare(first, second), [0, 1], (first, second))

    def test_the_class(self):
        for n, first, second in (
                (1, [1], [-1]), (1, [2], [3]), (2, [1, 0, 1], [1, 0, 2]), (2, [1, 0, -1], [1, 0, 1]),
                (2, [3, 0, 3], [-1, 0, 2]), (3, slant(1, 1, 1), slant(-1, -1, -1)), (3, slant(3, 3, 1), slant(1, 1, 2)),
                (4, slant(1, 1, 1, 1), slant(1, 1, 1, -1)), (4, slant(1, 1, 1, 1), slant(1, 1, 1, 3))):
            self.assertEqual(compare((n, first), (n, second)), [0, 2], (first, second))

    def test_signs(self):
        for n, first, second in (
                (2, [1, 0, 1], [-1, 0, -1]), (2, [1, 0, 2], [-1, 0, -2]), (2, [3, 0, 3], [-1, 0, -1]),
                (3, slant(1, 1, 1), slant(1, -1, -1)), (3, slant(1, 1, -7), slant(-1, -1, -7)),
                (4, slant(1, 1, 1, 1), slant(-1, -1, -1, -1)), (4, slant(1, 1, 1, 1), slant(1, 1, -1, -1)),
                (4, slant(-1, -1, -1, -1), [0, 1, 0, 0, 0, 0, 0, 0, 1, 0])):
            self.assertEqual(compare((n, first), (n, second)), [0, 3], (first, second))

    def test_the_symbol(self):
        # Where the signs are the same, the symbols differ at an even number of primes; told is the least.
        for n, first, second, primes in (
                (2, [1, 0, 1], [3, 0, 3], (2, 3)), (2, [1, 0, 1], [7, 0, 7], (2, 7)), (2, [3, 0, 3], [7, 0, 7], (3, 7)),
                (2, [1, 0, -5], [3, 6, -3], (3, 5)), (2, [1, 0, 6], [2, 0, 3], (2, 3)),
                (2, [-2, -8, 3], [9, 4, -6], (5, 7)), (2, [9, -10, -6], [6, -10, -9], (7, 11)),
                (3, slant(1, 1, -7), slant(3, 3, -7), (2, 3)),
                (3, [5, -5, 5, -10, 10, 2], [-9, 3, -10, 6, 8, -1], (2, 3, 5, 7)),
                (3, [-2, 9, 7, -2, 7, -1], [6, 10, -5, -1, -2, -9], (3, 5, 7, 11)),
                (3, [10, 1, 9, 10, -9, 7], [2, 6, 8, 5, -2, 6], (11, 13)),
                (3, [6, -9, 10, 5, 2, -6], [9, 1, -5, -2, -9, 7], (17, 19)),
                (4, slant(1, 1, -1, -1), slant(1, 1, -3, -3), (2, 3)),
                (4, slant(1, 1, 3, 3), slant(1, 1, 1, 1), (2, 3)),
                (4, [-6, 4, -5, 8, -7, 8, 9, -2, 9, -8], [-6, 8, 10, -4, 7, 10, 6, -6, 8, 6], (3, 5, 7, 11)),
                (4, [4, 0, 5, 7, 9, -5, 5, 8, 8, -7], [1, 3, -3, -1, -6, -6, 7, 5, -6, -7], (23, 29))):
            with self.subTest(first=first, second=second):
                self.assertEqual(compare((n, first), (n, second)), [0, 4, primes[0]])
                for p in (2, 3, 5, 7, 11, 13, 17, 19, 23, 29):
                    differs = symbol_of(rows_of(n, first), p) != symbol_of(rows_of(n, second), p)
                    self.assertEqual(differs, p in primes, p)

    def test_the_symbol_at_great_primes(self):
        first = [5, 5, -8, 7, -4, -4, -7, -10, 5, 0]
        second = [6, 3, 4, 7, -1, 9, -9, 2, -8, 10]
        self.assertEqual(compare((4, first), (4, second)), [0, 4, 97])
        for numbers in (first, second):
            self.assertEqual(square_free(determinant(rows_of(4, numbers))), 97 * 163)
        self.assertNotEqual(symbol_of(rows_of(4, first), 97), symbol_of(rows_of(4, second), 97))


class WhatIsKept(unittest.TestCase):
    def test_the_last_ones_told(self):
        self.assertEqual(
            ask(other(2, [3, 0, 3]), form(2, [1, 0, 1]), alike(), form(2, [3, 0, 3]), alike(), other(2, [1, 0, 1]),
                alike(), other(1, [5]), alike(), form(1, [5]), alike()),
            [[0], [0], [0, 4, 2], [0], [1], [0], [0, 4, 2], [0], [0, 1], [0], [1]])

    def test_refused_ones_leave_both(self):
        for refused, refusal in (
                ((0, []), -1), ((5, [1] * 12), -1), ((2, [1, 0]), -1), ((1, [11]), -1), ((2, [1, 0, -11]), -1),
                ((FAR, [FAR]), -1), ((1, [0]), -3), ((2, [1, 1, 1]), -3), ((4, [0] * 10), -3)):
            self.assertEqual(
                ask(form(2, [1, 0, 1]), other(2, [3, 0, 3]), other(*refused), alike(), form(*refused), alike(),
                    form(2, [6, 0, 6]), alike()),
                [[0], [0], [refusal], [0, 4, 2], [refusal], [0, 4, 2], [0], [1]], refused)
            self.assertEqual(ask(other(*refused), alike(), form(*refused), alike()), [[refusal], [1], [refusal], [1]])

    def test_other_calls_are_about_this_form_alone(self):
        calls = (stays(), symbol(3), makes(3), found(3), value([1, 2]))
        start = ask(form(2, [3, 0, 3]), *calls)[1:]
        self.assertEqual(ask(form(2, [3, 0, 3]), other(2, [1, 0, 1]), *calls)[2:], start)
        self.assertEqual(start, [[2, 1, 2, 0, 2, 2, 3], [0, -1], [1], [0, 0, 1], [0, 15]])


class ByTheWords(unittest.TestCase):
    def test_other_unknowns(self):
        count = {}
        for n, numbers in FORMS:
            rows = rows_of(n, numbers)
            for table in tables(n, (1, 1, 271, 1000003)[n - 1], (3, 81, 70, 40)[n - 1]):
                changed = told(in_other_unknowns(rows, table))
                if max(abs(m) for m in changed) <= 10:
                    self.assertEqual(compare((n, numbers), (n, changed)), [1], (numbers, changed))
                    count[n] = count.get(n, 0) + 1
        self.assertTrue(all(count[n] > 9 for n in range(1, 5)), count)

    def test_every_two(self):
        stay = []
        for n, numbers in FORMS:
            rows = rows_of(n, numbers)
            minus = [p for p in primes_that_matter(rows) if symbol_of(rows, p) == -1]
            stay.append((n, square_free(determinant(rows)), signs(rows), minus))
        seen = {}
        for k, m in list(combinations(range(len(FORMS)), 2)) + [(k, k) for k in range(len(FORMS))]:
            kind = next((i for i in range(4) if stay[k][i] != stay[m][i]), None)
            expected = [1] if kind is None else [0, kind + 1]
            if kind == 3:
                expected.append(min(set(stay[k][3]) ^ set(stay[m][3])))
            self.assertEqual(compare(FORMS[k], FORMS[m]), expected, (FORMS[k], FORMS[m]))
            seen[tuple(expected)] = True
        self.assertEqual(
            sorted(seen), [(0, 1), (0, 2), (0, 3), (0, 4, 2), (0, 4, 3), (0, 4, 5), (0, 4, 7), (1,)])


if __name__ == "__main__":
    unittest.main()
