"""form and other: what is taken, what is refused, and what each leaves as it was."""

import unittest

from tests.words import ask, form, other, slant, stays, symbol, zero

FAR = 9007199254740992
START = [1, 1, 1, 0, 0]
TAKERS = (form, other)


class Taken(unittest.TestCase):
    def test_each_n(self):
        for n in range(1, 5):
            for take in TAKERS:
                self.assertEqual(ask(take(n, slant(*[-1] * n))), [[0]])

    def test_the_order_in_which_numbers_tell_a_form(self):
        # [[1, 2, 3], [2, 4, 5], [3, 5, 6]] has determinant -1; other orders have others.
        self.assertEqual(ask(form(3, [1, 2, 3, 4, 5, 6]), stays()), [[0], [3, -1, 2, 1, 0]])
        # [[0, 1, 0, 0], [1, 0, 0, 0], [0, 0, 2, 1], [0, 0, 1, 3]] has determinant -5.
        told = [0, 1, 0, 0, 0, 0, 0, 2, 1, 3]
        self.assertEqual(ask(form(4, told), stays())[1][:4], [4, -5, 3, 1])

    def test_numbers_beside_the_slant_count_twice(self):
        # x x + 4 x y + y y: the determinant is 1 - 4.
        self.assertEqual(ask(form(2, [1, 2, 1]), stays())[1][:4], [2, -3, 1, 1])

    def test_ten_and_minus_ten(self):
        for take in TAKERS:
            self.assertEqual(ask(take(1, [10]), take(1, [-10]), take(2, [10, -10, -10])), [[0], [0], [0]])

    def test_the_new_form_is_asked(self):
        self.assertEqual(
            ask(form(1, [-3]), stays(), form(2, [1, 0, 1]), stays()),
            [[0], [1, -3, 0, 1, 0], [0], [2, 1, 2, 0, 0]])

    def test_other_leaves_this_form(self):
        self.assertEqual(ask(other(2, [1, 0, -1]), stays(), zero()), [[0], START, [0]])
        self.assertEqual(
            ask(form(2, [3, 0, 3]), other(2, [1, 0, -1]), stays(), zero(), symbol(3)),
            [[0], [0], [2, 1, 2, 0, 2, 2, 3], [0], [0, -1]])


class Refused(unittest.TestCase):
    def check(self, n, numbers, refusal):
        for take in TAKERS:
            with self.subTest(take=take.__name__, n=n, numbers=numbers):
                self.assertEqual(ask(take(n, numbers), stays()), [[refusal], START])

    def test_n(self):
        for n in (0, 5, 6, 1000, FAR):
            for numbers in ([], [1], [1, 0, 1], slant(1, 1, 1, 1), [1] * 12, slant(1, 1, 1, 1, 1)):
                self.check(n, numbers, -1)

    def test_how_many_numbers(self):
        for n, right in ((1, 1), (2, 3), (3, 6), (4, 10)):
            told = slant(*[1] * n)
            self.assertEqual(len(told), right)
            self.check(n, told[:-1], -1)
            self.check(n, told + [1], -1)
            self.check(n, [], -1)
            self.check(n, [1] * 12, -1)
        self.check(2, [1, 0, 0, 1], -1)
        self.check(3, slant(1, 1, 1, 1), -1)

    def test_numbers_that_are_too_great(self):
        for number in (11, -11, 1000, FAR, -FAR):
            self.check(1, [number], -1)
            for n in range(2, 5):
                told = slant(*[1] * n)
                for k in range(len(told)):
                    self.check(n, told[:k] + [number] + told[k + 1:], -1)

    def test_determinant(self):
        for n, numbers in (
                (1, [0]), (2, [0, 0, 0]), (2, [1, 1, 1]), (2, [4, -6, 9]), (2, [0, 0, 5]),
                (3, [1, 2, 3, 4, 6, 9]), (3, [1, 2, 3, 3, 4, 5]), (3, [0, 1, 0, 0, 0, 0]),
                (4, [0] * 10), (4, slant(1, 1, 0, 1)), (4, [1, 1, 0, 0, 1, 0, 0, 1, 0, 1])):
            self.check(n, numbers, -3)

    def test_of_several_the_one_told_first(self):
        self.check(1, [0, 0], -1)
        self.check(1, [], -1)
        self.check(0, [0], -1)
        self.check(2, [11, 0, 0], -1)
        self.check(2, [0, 0, 11], -1)
        self.check(2, [FAR, FAR, FAR], -1)
        self.check(4, [-11] * 10, -1)

    def test_the_form_before_stays(self):
        before = [3, -7, 2, 1, 0]
        for refused, refusal in ((form(0, []), -1), (form(3, [1]), -1), (form(1, [11]), -1), (form(2, [1, 1, 1]), -3)):
            self.assertEqual(
                ask(form(3, slant(1, 1, -7)), refused, stays(), zero()), [[0], [refusal], before, [0]])


if __name__ == "__main__":
    unittest.main()
