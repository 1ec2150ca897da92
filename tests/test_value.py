"""value: the form's number at a row, and rows that are not taken."""

import unittest
from itertools import product

from tests.words import ask, ask_of, form, other, rows_of, slant, stays, value

FAR = 9007199254740992
FORMS = (
    (1, [1]), (1, [-7]), (2, [1, 0, 1]), (2, [1, 2, -3]), (2, [0, 5, 0]), (3, [1, 2, 3, 4, 5, 6]),
    (3, [-9, 8, 0, 7, -6, 10]), (4, [1, 2, 3, 4, 5, 6, 7, 8, 9, 10]), (4, [0, -1, 2, -3, 4, -5, 6, -7, 8, -10]))


class Known(unittest.TestCase):
    def check(self, n, numbers, row, number):
        self.assertEqual(ask(form(n, numbers), value(row)), [[0], [0, number]], (numbers, row))

    def test_x_x_at_the_beginning(self):
        self.assertEqual(
            ask(value([0]), value([1]), value([-3]), value([1000])), [[0, 0], [0, 1], [0, 9], [0, 1000000]])

    def test_each_n(self):
        self.check(1, [-7], [3], -63)
        self.check(2, [1, 0, 1], [3, 4], 25)
        # x x + 4 x y - 3 y y
        self.check(2, [1, 2, -3], [5, 2], 25 + 40 - 12)
        # x x + 4 x y + 6 x z + 4 y y + 10 y z + 6 z z
        self.check(3, [1, 2, 3, 4, 5, 6], [1, 10, 100], 1 + 40 + 600 + 400 + 10000 + 60000)
        # Beside the squares each number counts twice.
        self.check(4, [0, 1, 0, 0, 0, 0, 0, 0, 1, 0], [1, 2, 3, 4], 2 * 2 + 2 * 12)
        self.check(4, slant(1, -1, 2, -2), [1, 2, 3, 4], 1 - 4 + 18 - 32)

    def test_numbers_below_0(self):
        self.check(1, [2], [-5], 50)
        self.check(2, [1, 2, -3], [-5, 2], 25 - 40 - 12)
        self.check(2, [1, 2, -3], [-5, -2], 25 + 40 - 12)
        self.check(3, [0, 1, 0, 0, 0, -1], [-1, 1, 2], -2 - 4)

    def test_all_0(self):
        for n, numbers in FORMS:
            self.check(n, numbers, [0] * n, 0)

    def test_the_last_numbers(self):
        self.check(1, [10], [1000], 10000000)
        self.check(1, [-10], [-1000], -10000000)
        self.check(2, [10, 10, -10], [1000, -1000], -20000000)
        # Of the sixteen m(i, j) three are 9, the others 10.
        numbers = [10, 10, 10, 10, 9, 10, 10, 9, 10, 9]
        self.check(4, numbers, [1000] * 4, 157000000)
        self.check(4, numbers, [-1000] * 4, 157000000)
        self.check(4, [-m for m in numbers], [1000] * 4, -157000000)


class Refused(unittest.TestCase):
    def check(self, n, numbers, row):
        given = ask(form(n, numbers), value(row), value([1] * n), stays())
        expected = ask(form(n, numbers), value([1] * n), stays())
        self.assertEqual(given, [[0], [-1]] + expected[1:], (numbers, row))

    def test_too_few_too_many_and_none(self):
        for n in range(1, 5):
            for size in range(7):
                if size != n:
                    self.check(n, slant(*[3] * n), [1] * size)
                    self.check(n, slant(*[3] * n), [1001] * size)

    def test_x_x_at_the_beginning(self):
        self.assertEqual(ask(value([]), value([1, 0]), value([1] * 6), value([2])), [[-1], [-1], [-1], [0, 4]])

    def test_numbers_that_are_too_great(self):
        for n in range(1, 5):
            for number in (1001, -1001, 5000, FAR, -FAR):
                for k in range(n):
                    row = [1000] * n
                    row[k] = number
                    self.check(n, slant(*[-1] * n), row)


class WhichForm(unittest.TestCase):
    def test_the_last_that_was_not_refused(self):
        self.assertEqual(
            ask(form(2, [1, 0, 1]), value([1, 2]), form(2, [1, 1, 1]), value([1, 2]), form(1, [11]), value([1, 2]),
                form(3, [1]), value([1, 2]), form(2, [0, 1, 0]), value([1, 2]), form(1, [5]), value([1, 2]),
                value([2])),
            [[0], [0, 5], [-3], [0, 5], [-1], [0, 5], [-1], [0, 5], [0], [0, 4], [0], [-1], [0, 20]])

    def test_not_the_other(self):
        self.assertEqual(
            ask(other(2, [1, 0, 1]), value([3]), value([1, 2]), form(2, [2, 0, 1]), other(1, [3]), value([1, 1])),
            [[0], [0, 9], [-1], [0], [0], [0, 3]])


class ByTheWords(unittest.TestCase):
    def test_the_sum_of_all(self):
        for n, numbers in FORMS:
            rows = rows_of(n, numbers)
            asked = list(product((-1000, -3, 0, 2), repeat=n))
            given = ask_of(form(n, numbers), [value(row) for row in asked])
            for row, answer in zip(asked, given):
                number = 0
                for i, j in product(range(n), repeat=2):
                    number += rows[i][j] * row[i] * row[j]
                self.assertEqual(answer, [0, number], (numbers, row))


if __name__ == "__main__":
    unittest.main()
