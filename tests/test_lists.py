"""Lists of calls: several in one, what is given back, and that nothing is changed or kept."""

import unittest

from fractionformsdesk.desk import answers
from tests.words import form, other, slant, stays, symbol, zero, zero_at

FAR = 9007199254740992
CALLS = (
    stays() + form(2, [3, 0, 3]) + form(5, []) + stays() + symbol(4) + symbol(3) + form(2, [1, 1, 1]) + zero()
    + other(1, [-5]) + zero_at(FAR) + zero_at(5) + other(3, [0] * 6) + form(3, [1, 0, 0, 1, 0, -7]) + zero()
    + form(1, [2] * 12) + zero_at(7) + zero_at(3) + stays())
GIVEN = (
    [5, 1, 1, 1, 0, 0] + [1, 0] + [1, -1] + [7, 2, 1, 2, 0, 2, 2, 3] + [1, -1] + [2, 0, -1] + [1, -3] + [1, 0]
    + [1, 0] + [1, -1] + [1, 1] + [1, -3] + [1, 0] + [1, 0] + [1, -1] + [1, 0] + [1, 1] + [5, 3, -7, 2, 1, 0])


class Unchanging(list):
    """A list that can be read, and fails when it is changed."""

    def fail(self, *given):
        raise AssertionError("the list that was handed in is changed")

    append = clear = extend = insert = pop = remove = reverse = sort = fail
    __setitem__ = __delitem__ = __iadd__ = __imul__ = fail


class Lists(unittest.TestCase):
    def test_one_call(self):
        self.assertEqual(answers([2]), [5, 1, 1, 1, 0, 0])
        self.assertEqual(answers([4]), [1, 0])
        self.assertEqual(answers([3, 0]), [2, 0, 1])
        self.assertEqual(answers([5, 0]), [1, 0])
        self.assertEqual(answers([0, 2, 3, 1, 0, -1]), [1, 0])
        self.assertEqual(answers([1, 2, 3, 1, 0, -1]), [1, 0])
        self.assertEqual(answers([0, 0, 0]), [1, -1])
        self.assertEqual(answers([3, 1]), [1, -1])

    def test_several_calls_with_refusals_between(self):
        self.assertEqual(answers(list(CALLS)), GIVEN)

    def test_thirty_calls(self):
        self.assertEqual(answers(form(2, [1, 0, -1]) * 29 + zero()), [1, 0] * 29 + [1, 1])
        self.assertEqual(answers(form(4, [11] * 12) * 30), [1, -1] * 30)
        self.assertEqual(answers(form(4, slant(1, 2, 3, -6)) * 29 + [2])[58:], [7, 4, -1, 3, 1, 2, 2, 3])

    def test_the_list_is_as_it_was(self):
        handed = list(CALLS)
        answers(handed)
        self.assertEqual(handed, list(CALLS))

    def test_the_list_is_not_changed_for_a_while_either(self):
        self.assertEqual(answers(Unchanging(CALLS)), GIVEN)

    def test_the_same_twice(self):
        handed = list(CALLS)
        first = answers(handed)
        first.append(0)
        self.assertEqual(answers(handed), GIVEN)

    def test_nothing_is_kept(self):
        answers(form(3, slant(1, 1, -1)) + other(2, [0, 1, 0]))
        self.assertEqual(answers(stays() + zero()), [5, 1, 1, 1, 0, 0, 1, 0])

    def test_whole_numbers_and_a_list(self):
        given = answers(list(CALLS))
        self.assertIs(type(given), list)
        self.assertEqual({type(number) for number in given}, {int})


if __name__ == "__main__":
    unittest.main()
