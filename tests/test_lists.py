"""Lists of calls: several in one, what is given back, and that nothing is changed or kept."""

import unittest

from fractionformsdesk.desk import answers
from tests.words import (
    alike, form, found, makes, makes_at, other, slant, stays, symbol, value, zero, zero_at)

FAR = 9007199254740992
CALLS = (
    stays() + form(2, [3, 0, 3]) + form(5, []) + stays() + symbol(4) + symbol(3) + form(2, [1, 1, 1]) + zero()
    + other(1, [-5]) + zero_at(FAR) + zero_at(5) + other(3, [0] * 6) + form(3, [1, 0, 0, 1, 0, -7]) + zero()
    + form(1, [2] * 12) + zero_at(7) + zero_at(3) + stays())
GIVEN = (
    [5, 1, 1, 1, 0, 0] + [1, 0] + [1, -1] + [7, 2, 1, 2, 0, 2, 2, 3] + [1, -1] + [2, 0, -1] + [1, -3] + [1, 0]
    + [1, 0] + [1, -1] + [1, 1] + [1, -3] + [1, 0] + [1, 0] + [1, -1] + [1, 0] + [1, 1] + [5, 3, -7, 2, 1, 0])
# All eleven calls, each of them taken and each that can be refused.
ALL_ELEVEN = (
    alike() + found(0) + value([7]) + form(2, [1, 0, 1]) + makes(5) + makes(0) + makes_at(3, 3) + makes_at(1001, 4)
    + other(2, [3, 0, 3]) + alike() + form(2, [1, 1, 1]) + found(25) + value([3, -4]) + value([3]) + found(3)
    + other(2, [1, 0, 11]) + symbol(1) + alike() + found(1001) + makes_at(3, 0) + stays() + zero() + symbol(2)
    + zero_at(5) + other(2, [2, 0, 2]) + alike() + other(4, [0] * 10) + makes(-1001) + value([1001, 0]) + found(-5))
GIVEN_TO_ALL_ELEVEN = (
    [1, 1] + [1, -8] + [2, 0, 49] + [1, 0] + [1, 1] + [1, -1] + [1, 0] + [1, -1]
    + [1, 0] + [3, 0, 4, 2] + [1, -3] + [3, 0, 3, 4] + [2, 0, 25] + [1, -1] + [1, -8]
    + [1, -1] + [1, -1] + [3, 0, 4, 2] + [1, -1] + [1, 1] + [5, 2, 1, 2, 0, 0] + [1, 0] + [2, 0, 1]
    + [1, 1] + [1, 0] + [1, 1] + [1, -3] + [1, -1] + [1, -1] + [1, -8])


class Unchanging(list):
    """A list that can be read, and fails when it is changed."""

    def fail(self, *given):
        raise AssertionError("the list that was handed in is changed")

    append = clear = extend = insert = pop = remove = reverse = sort = fail
    __setitem__ = __delitem__ = __iadd__ = __imul__ = fail


class Lists(unittest.TestCase):
    def test_one_call(self):
        self.assertEqual(answers([2]), [5, 1, 1, 1, 0, 0])
        self.assertEqual(answers([4]), [1, 0])
        self.assertEqual(answers([3, 0]), [2, 0, 1])
        self.assertEqual(answers([5, 0]), [1, 0])
        self.assertEqual(answers([0, 2, 3, 1, 0, -1]), [1, 0])
        self.assertEqual(answers([1, 2, 3, 1, 0, -1]), [1, 0])
        self.assertEqual(answers([6, 4]), [1, 1])
        self.assertEqual(answers([7, 2, 7]), [1, 1])
        self.assertEqual(answers([7, 7, 2]), [1, 0])
        self.assertEqual(answers([8]), [1, 1])
        self.assertEqual(answers([9, 4]), [2, 0, 2])
        self.assertEqual(answers([10, 1, -3]), [2, 0, 9])
        self.assertEqual(answers([0, 0, 0]), [1, -1])
        self.assertEqual(answers([6, 0]), [1, -1])
        self.assertEqual(answers([7, 0, 1]), [1, -1])
        self.assertEqual(answers([9, 0]), [1, -8])
        self.assertEqual(answers([9, 1001]), [1, -1])
        self.assertEqual(answers([10, 0]), [1, -1])
        self.assertEqual(answers([3, 1]), [1, -1])

    def test_several_calls_with_refusals_between(self):
        self.assertEqual(answers(list(CALLS)), GIVEN)

    def test_all_eleven_calls_with_refusals_between(self):
        self.assertEqual(answers(list(ALL_ELEVEN)), GIVEN_TO_ALL_ELEVEN)

    def test_refusals_leave_all_as_it_was(self):
        refused = (
            form(5, []) + other(2, [1]) + form(1, [0]) + other(1, [0]) + symbol(4) + zero_at(1) + makes(0)
            + makes_at(0, 2) + makes_at(2, 6) + found(FAR) + found(1) + value([1]) + value([1, -1001]))
        start = form(2, [3, 0, 3]) + other(2, [1, 0, 1])
        rest = stays() + alike() + symbol(3) + zero_at(5) + makes(3) + makes_at(1, 3) + found(6) + value([1, 2])
        given = (
            [7, 2, 1, 2, 0, 2, 2, 3] + [3, 0, 4, 2] + [2, 0, -1] + [1, 1] + [1, 1] + [1, 0] + [3, 0, 1, 1] + [2, 0, 15])
        refusals = [1, -1] * 2 + [1, -3] * 2 + [1, -1] * 6 + [1, -8] + [1, -1] * 2
        self.assertEqual(answers(start + rest), [1, 0, 1, 0] + given)
        self.assertEqual(answers(start + refused + rest), [1, 0, 1, 0] + refusals + given)

    def test_thirty_calls(self):
        self.assertEqual(answers(alike() * 30), [1, 1] * 30)
        self.assertEqual(answers(value([0] * 6) * 29 + value([5])), [1, -1] * 29 + [2, 0, 25])
        self.assertEqual(answers(form(2, [1, 0, -1]) * 29 + zero()), [1, 0] * 29 + [1, 1])
        self.assertEqual(answers(form(4, [11] * 12) * 30), [1, -1] * 30)
        self.assertEqual(answers(form(4, slant(1, 2, 3, -6)) * 29 + [2])[58:], [7, 4, -1, 3, 1, 2, 2, 3])

    def test_the_list_is_as_it_was(self):
        for calls in (CALLS, ALL_ELEVEN):
            handed = list(calls)
            answers(handed)
            self.assertEqual(handed, list(calls))

    def test_the_list_is_not_changed_for_a_while_either(self):
        self.assertEqual(answers(Unchanging(CALLS)), GIVEN)
        self.assertEqual(answers(Unchanging(ALL_ELEVEN)), GIVEN_TO_ALL_ELEVEN)

    def test_the_same_twice(self):
        for calls, given in ((CALLS, GIVEN), (ALL_ELEVEN, GIVEN_TO_ALL_ELEVEN)):
            handed = list(calls)
            first = answers(handed)
            first.append(0)
            self.assertEqual(answers(handed), given)

    def test_nothing_is_kept(self):
        answers(form(3, slant(1, 1, -1)) + other(2, [0, 1, 0]))
        self.assertEqual(answers(stays() + zero()), [5, 1, 1, 1, 0, 0, 1, 0])
        self.assertEqual(answers(alike() + value([2]) + found(4)), [1, 1, 2, 0, 4, 2, 0, 2])

    def test_whole_numbers_and_a_list(self):
        for calls in (CALLS, ALL_ELEVEN):
            given = answers(list(calls))
            self.assertIs(type(given), list)
            self.assertEqual({type(number) for number in given}, {int})


if __name__ == "__main__":
    unittest.main()
