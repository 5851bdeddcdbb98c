"""Promise 1: begin."""

import unittest

from tests.helper import MOST, ask, begin, cut, field, triangle

CORNER = field(2, 2, 2, [1, 0, 0, 0, 0, 0, 0, 0])


class TestBegin(unittest.TestCase):
    def test_answers_0(self):
        self.assertEqual(ask(begin()), [[0]])

    def test_there_is_no_field_and_no_level(self):
        self.assertEqual(ask(begin(), triangle(0), cut(0), triangle(0)), [[0], [-4], [-1], [-4]])

    def test_again_takes_field_and_level_away(self):
        told = ask(begin(), CORNER, cut(1), begin(), triangle(0), cut(1), triangle(0))
        self.assertEqual(told, [[0], [0], [6], [0], [-4], [-1], [-4]])

    def test_again_takes_a_field_without_level_away(self):
        self.assertEqual(ask(begin(), CORNER, begin(), cut(1)), [[0], [0], [0], [-1]])

    def test_again_and_then_a_new_field(self):
        told = ask(begin(), CORNER, cut(1), begin(), CORNER, triangle(0), cut(1), triangle(MOST))
        self.assertEqual(told, [[0], [0], [6], [0], [0], [-4], [6], [-1]])

    def test_again_and_again(self):
        self.assertEqual(ask(*[begin()] * 100), [[0]] * 100)
