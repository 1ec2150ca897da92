"""found: the first row of the least size at which the form is t."""

import unittest

from tests.words import ask, ask_of, first_rows, form, found, rows_of, slant, stays, value, value_at, zero

FAR = 9007199254740992

FORMS = (
    (1, [1]), (1, [-1]), (1, [7]), (1, [-10]),
    (2, [1, 0, 1]), (2, [1, 0, -10]), (2, [0, 1, 0]), (2, [7, 8, 9]), (2, [-3, 1, -5]), (2, [2, 4, 9]), (2, [9, 0, -4]),
    (3, slant(1, 1, 1)), (3, slant(1, 1, -7)), (3, [0, 1, 2, 0, 3, 0]), (3, [3, 4, 0, 6, 1, 9]), (3, slant(1, 2, -3)),
    (4, slant(1, 1, 1, 1)), (4, slant(1, 1, -7, -7)), (4, [2, 3, 0, 0, 5, 3, 0, 4, 1, 1]),
    (4, [9, 9, 5, 2, 10, 7, 3, 9, 6, 6]))


class Known(unittest.TestCase):
    def check(self, n, numbers, answers_by_t):
        given = ask_of(form(n, numbers), [found(t) for t in answers_by_t], 6)
        self.assertEqual(given, list(answers_by_t.values()), numbers)

    def test_x_x_at_the_beginning(self):
        self.assertEqual(
            ask(found(1), found(4), found(961), found(2), found(-1), found(0)),
            [[0, 1], [0, 2], [0, 31], [-8], [-8], [-8]])

    def test_one_unknown(self):
        self.check(1, [-10], {-10: [0, 1], -40: [0, 2], -1000: [0, 10], 10: [-8], 1000: [-8], -20: [-8]})
        # It makes 2, but isn't 2 at any row of whole numbers.
        self.check(1, [8], {2: [-8], 8: [0, 1], 800: [0, 10], 0: [-8]})

    def test_the_order_of_a_number(self):
        # 0 comes first, then 1, then -1, then 2.
        self.check(2, [1, 0, 1], {1: [0, 0, 1], 2: [0, 1, 1], 5: [0, 1, 2]})
        self.check(2, [0, 1, 0], {-2: [0, 1, -1], 4: [0, 1, 2], -4: [0, 1, -2], -8: [0, 2, -2]})
        # It is 1 at 1, 0 and at 1, -1, and 2 at 0, 1 and at 0, -1.
        self.check(2, [1, 1, 2], {5: [0, 1, 1], 1: [0, 1, 0], 2: [0, 0, 1]})

    def test_the_first_number_first(self):
        self.check(2, [1, 0, 1], {13: [0, 2, 3], 10: [0, 1, 3], 25: [0, 3, 4]})
        self.check(3, slant(1, 1, 1), {1: [0, 0, 0, 1], 2: [0, 0, 1, 1], 14: [0, 1, 2, 3], 9: [0, 1, 2, 2]})
        self.check(3, [0, 1, 0, 0, 0, 1], {-2: [0, 1, -1, 0], -1: [0, 1, -1, 1]})
        self.check(4, slant(1, 1, 1, 1), {1: [0, 0, 0, 0, 1], 30: [0, 1, 2, 3, 4], 10: [0, 1, 1, 2, 2]})

    def test_the_least_size_before_the_order(self):
        # 1, 6 comes before 2, 3 in order, and 0, 5 before 3, 4, but they are greater.
        self.check(2, [0, 1, 0], {12: [0, 2, 3], -12: [0, 2, -3]})
        self.check(2, [1, 0, 1], {25: [0, 3, 4], 50: [0, 5, 5]})
        self.check(3, slant(1, 1, 1), {9: [0, 1, 2, 2]})
        self.check(4, slant(1, 1, 1, 1), {4: [0, 1, 1, 1, 1], 16: [0, 2, 2, 2, 2]})

    def test_a_number_below_0_in_the_first_row(self):
        # 10 x x - 18 x y + 9 y y and its like with + tell the signs apart.
        self.check(2, [10, -9, 9], {1: [0, 1, 1], 37: [0, 1, -1]})
        self.check(2, [10, 9, 9], {1: [0, 1, -1], 37: [0, 1, 1]})
        self.check(
            3, [3, 1, 1, 3, -2, 3],
            {1: [0, 1, -1, -1], 13: [0, 1, 1, -1], 9: [0, 1, 1, 1], 2: [0, 0, 1, 1], 10: [0, 0, 1, -1],
             4: [0, 1, 0, -1]})

    def test_the_greatest_sizes(self):
        # With one unknown no number up to 1000 asks for more than 31.
        self.check(1, [1], {961: [0, 31], 900: [0, 30], 1000: [-8]})
        self.check(1, [-1], {-961: [0, 31], -1000: [-8]})
        self.check(2, [1, 0, -10], {160: [0, 40, 12], -960: [0, 40, 16], 311: [0, 39, 11]})
        self.check(2, [10, 0, -1], {-160: [0, 12, 40], 960: [0, 16, 40]})
        self.check(3, slant(1, 1, 1), {120: [0, 2, 4, 10], 300: [0, 10, 10, 10], 91: [0, 1, 3, 9]})
        self.check(3, slant(1, 1, -7), {-700: [0, 0, 0, 10]})
        self.check(4, slant(1, 1, 1, 1), {39: [0, 1, 2, 3, 5], 100: [0, 5, 5, 5, 5], 24: [0, 0, 2, 2, 4]})
        self.check(4, slant(10, 10, 10, 10), {1000: [0, 5, 5, 5, 5]})

    def test_greater_rows_are_not_found(self):
        for n, numbers, row in (
                (2, [1, 0, -10], (41, 12)), (2, [2, 4, 9], (41, -21)), (3, slant(1, 1, 1), (0, 6, 11)),
                (3, slant(1, 1, -7), (0, 0, 11)), (4, slant(1, 1, 1, 1), (0, 1, 4, 6)),
                (4, slant(1, 1, -7, -7), (0, 0, 6, 6))):
            t = value_at(rows_of(n, numbers), row)
            self.assertEqual(ask(form(n, numbers), found(t), value(row)), [[0], [-8], [0, t]], (numbers, t))

    def test_t_0_with_a_zero(self):
        self.check(2, [1, 0, -1], {0: [0, 1, 1]})
        self.check(2, [0, 1, 0], {0: [0, 0, 1]})
        self.check(2, [9, 0, -4], {0: [0, 2, 3]})
        self.check(2, [10, 0, -10], {0: [0, 1, 1]})
        self.check(2, [1, 3, 8], {0: [0, 2, -1]})
        self.check(3, slant(1, 1, -1), {0: [0, 0, 1, 1]})
        self.check(3, slant(1, 1, -5), {0: [0, 1, 2, 1]})
        self.check(3, slant(1, 2, -6), {0: [0, 2, 1, 1]})
        self.check(4, slant(1, 1, 1, -7), {0: [-8]})
        self.check(4, slant(1, 1, 1, -6), {0: [0, 1, 1, 2, 1]})
        self.check(4, slant(1, 1, -1, -1), {0: [0, 0, 1, 0, 1]})

    def test_t_0_without_a_zero(self):
        for n, numbers in (
                (1, [1]), (1, [-10]), (2, [1, 0, 1]), (2, [1, 0, -2]), (2, [7, 2, 3]), (3, slant(1, 1, 1)),
                (3, slant(1, 1, -7)), (4, slant(1, 1, 1, 1)), (4, slant(1, 1, -7, -7))):
            self.assertEqual(ask(form(n, numbers), zero(), found(0)), [[0], [0], [-8]], numbers)

    def test_t_0_with_greater_zeros_alone(self):
        for n, numbers, row in (
                (3, [-7, 8, 9, -7, 8, 7], (2, -5, 11)), (3, [10, 7, 7, -9, 7, -9], (4, 3, 13)),
                (4, [6, -3, 10, -9, 7, -9, -2, -3, 0, -6], (4, 7, 3, 1)),
                (4, [9, -1, 3, 4, 4, 4, -6, 10, -6, -4], (6, 6, -4, -5))):
            self.assertEqual(ask(form(n, numbers), zero(), found(0), value(row)), [[0], [1], [-8], [0, 0]], numbers)


class Refused(unittest.TestCase):
    def test_t(self):
        for t in (1001, -1001, 1024, -4000, 999999, FAR, -FAR):
            self.assertEqual(ask(found(t), stays(), found(1)), [[-1], [1, 1, 1, 0, 0], [0, 1]], t)
            for n, numbers in ((1, [7]), (2, [0, 1, 0]), (3, slant(1, 1, -1)), (4, slant(1, 1, 1, 1))):
                self.assertEqual(ask(form(n, numbers), found(t), zero())[1], [-1], (numbers, t))

    def test_the_last_numbers(self):
        for n, numbers, above, below in (
                (1, [10], [0, 10], [-8]), (1, [-10], [-8], [0, 10]), (2, [1, 0, 1], [0, 18, 26], [-8]),
                (2, [-1, 0, -1], [-8], [0, 18, 26]), (3, slant(10, 10, 10), [0, 0, 6, 8], [-8]),
                (4, slant(-10, -10, -10, -10), [-8], [0, 5, 5, 5, 5])):
            self.assertEqual(
                ask(form(n, numbers), found(1000), found(-1000), found(1001), found(-1001)),
                [[0], above, below, [-1], [-1]], numbers)

    def test_a_row_that_is_not_there_changes_nothing(self):
        self.assertEqual(
            ask(form(2, [3, 0, 3]), found(1), stays(), found(6)), [[0], [-8], [2, 1, 2, 0, 2, 2, 3], [0, 1, 1]])


class ByTheWords(unittest.TestCase):
    def test_numbers_of_all_sorts(self):
        asked = sorted({0, 1000, -1000, *range(-6, 7), *range(-1000, 1000, 143)})
        for n, numbers in FORMS:
            first = first_rows(rows_of(n, numbers))
            given = ask_of(form(n, numbers), [found(t) for t in asked], 6)
            for t, answer in zip(asked, given):
                self.assertEqual(answer, [0, *first[t]] if t in first else [-8], (numbers, t))

    def test_numbers_of_the_greatest_size(self):
        for n, numbers in FORMS:
            size = (40, 40, 10, 5)[n - 1]
            first = first_rows(rows_of(n, numbers))
            asked = [t for t, row in first.items() if abs(t) <= 1000 and max(map(abs, row)) == size][:6]
            given = ask_of(form(n, numbers), [found(t) for t in asked], 6)
            self.assertEqual(given, [[0, *first[t]] for t in asked], numbers)


if __name__ == "__main__":
    unittest.main()
