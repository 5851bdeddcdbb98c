"""The form in which calls are handed in and answers given back."""

import unittest

from fieldsurface.desk import answers
from tests.helper import Locked, ask, begin, cut, field, mixed_values, triangle

CORNER_CALLS = [0, 1, 2, 2, 2, 8, 1, 0, 0, 0, 0, 0, 0, 0, 2, 1, 3, 0, 3, 6]
CORNER_TOLD = [1, 0, 1, 0, 1, 6, 13, 0, 0, 0, 0, 1, 0, 0, 0, 3, 0, 0, 0, 7, 1, -1]


class TestDesk(unittest.TestCase):
    def test_no_calls(self):
        self.assertEqual(answers([]), [])

    def test_how_many_numbers_and_then_the_numbers(self):
        self.assertEqual(answers([0]), [1, 0])
        self.assertEqual(answers(list(CORNER_CALLS)), CORNER_TOLD)

    def test_refusals_are_a_number_alone(self):
        self.assertEqual(answers([0, 1, 1, 2, 2, 0, 2, 5, 3, 0, 0]), [1, 0, 1, -1, 1, -1, 1, -4, 1, 0])

    def test_each_call_by_its_number(self):
        # One cube with 3 at the grid point 1, 0, 0: triangles 0 and 1, which are one piece.
        head = [0, 1, 2, 2, 2, 8, 0, 3, 0, 0, 0, 0, 0, 0, 2, 1]
        told = [1, 0, 1, 0, 1, 2]
        self.assertEqual(answers(head + [3, 1]), told + [13, 0, 0, 0, 0, 1, 1, 0, 0, 4, 1, 0, 0, 6])
        self.assertEqual(answers(head + [4, 1, 0, 0, 6]), told + [3, 0, 2, 3])
        self.assertEqual(answers(head + [5]), told + [1, 1])
        self.assertEqual(answers(head + [6, 0]), told + [6, 0, 0, 2, 4, 5, 4])
        self.assertEqual(answers(head + [7, 1]), told + [1, 0])
        self.assertEqual(answers(head + [4, 0, 0, 0, 1, 5, 6, 1, 7, 2, 5]),
                         told + [3, 0, 1, 3, 1, 1, 1, -1, 1, -1, 1, 1])

    def test_values_that_look_like_calls(self):
        calls = [0, 1, 2, 2, 2, 8, 3, 3, 0, 0, 2, 1, 3, 0, 2, 3, 0]
        self.assertEqual(answers(calls), [1, 0, 1, 0, 1, 10, 1, 0])

    def test_what_is_handed_in_stays(self):
        handed = list(CORNER_CALLS)
        answers(handed)
        self.assertEqual(handed, CORNER_CALLS)
        self.assertEqual(answers(Locked(CORNER_CALLS)), CORNER_TOLD)

    def test_what_is_given_back_is_new(self):
        handed = []
        told = answers(handed)
        told.append(5)
        self.assertEqual(handed, [])
        self.assertEqual(answers(handed), [])

    def test_nothing_is_kept(self):
        told = answers(list(CORNER_CALLS))
        told.clear()
        self.assertEqual(answers([0, 3, 0, 2, 1]), [1, 0, 1, -4, 1, -1])
        self.assertEqual(answers(list(CORNER_CALLS)), CORNER_TOLD)

    def test_whole_numbers_alone(self):
        told = answers(list(CORNER_CALLS))
        self.assertIs(type(told), list)
        self.assertEqual({type(number) for number in told}, {int})

    def test_hundred_calls_with_large_fields(self):
        values = mixed_values(48, 5, -32768, 32767)
        calls = [begin()] + [field(3, 4, 4, values), cut(0), triangle(3)] * 33
        told = ask(*calls)
        self.assertEqual(len(told), 100)
        self.assertEqual(told[1:], told[1:4] * 33)
        self.assertEqual([len(row) for row in told[1:4]], [1, 1, 13])
