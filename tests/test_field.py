"""Promise 2: field."""

import unittest

from fieldsurface.field import is_size
from tests.helper import LEAST, MOST, ask, begin, cut, field, triangle

CORNER = field(2, 2, 2, [1, 0, 0, 0, 0, 0, 0, 0])
FIRST = [0, 0, 0, 0, 1, 0, 0, 0, 3, 0, 0, 0, 7]
OUTSIDE = [1, 33, 0, -1, -2, -32, 34, LEAST, MOST]
FITTING = [(2, 2, 2), (12, 2, 2), (2, 12, 2), (2, 2, 12), (3, 4, 4), (4, 3, 4), (4, 4, 3), (3, 3, 5), (2, 3, 8)]


def refused_fields():
    """A field with each size that's outside, in each place and in several at once."""
    for size in OUTSIDE:
        for sizes in [(size, 2, 2), (2, size, 2), (2, 2, size), (size, size, 2), (2, size, size), (size, 3, size),
                      (size, size, size)]:
            yield field(*sizes)


class TestField(unittest.TestCase):
    def test_answers_0(self):
        for nx, ny, nz in FITTING:
            with self.subTest(sizes=(nx, ny, nz)):
                self.assertEqual(ask(begin(), field(nx, ny, nz, [7] * (nx * ny * nz))), [[0], [0]])

    def test_takes_the_ends_of_the_values(self):
        values = [-32768, 32767, 0, -1, 1, -32768, 32767, 32767]
        self.assertEqual(ask(begin(), field(2, 2, 2, values)), [[0], [0]])

    def test_takes_the_level_away(self):
        told = ask(begin(), CORNER, cut(1), triangle(0), CORNER, triangle(0), triangle(-1))
        self.assertEqual(told, [[0], [0], [6], FIRST, [0], [-4], [-4]])

    def test_takes_the_place_of_the_field_before(self):
        told = ask(begin(), CORNER, cut(1), field(2, 2, 2, [0, 1, 0, 0, 0, 0, 0, 0]), cut(1))
        self.assertEqual(told, [[0], [0], [6], [0], [2]])

    def test_takes_a_field_of_other_sizes(self):
        told = ask(begin(), CORNER, field(3, 2, 2, [1] + [0] * 10 + [1]), cut(1), CORNER, cut(1))
        self.assertEqual(told, [[0], [0], [0], [12], [0], [6]])

    def test_refuses_sizes_outside(self):
        for refused in refused_fields():
            with self.subTest(sizes=refused[1:4]):
                self.assertEqual(ask(begin(), refused), [[0], [-1]])

    def test_refused_leaves_no_field(self):
        for refused in refused_fields():
            with self.subTest(sizes=refused[1:4]):
                self.assertEqual(ask(begin(), refused, cut(0), triangle(0)), [[0], [-1], [-1], [-4]])

    def test_refused_leaves_field_and_level(self):
        for refused in refused_fields():
            with self.subTest(sizes=refused[1:4]):
                told = ask(begin(), CORNER, cut(1), refused, triangle(0), triangle(6), cut(0), cut(1), triangle(0))
                self.assertEqual(told, [[0], [0], [6], [-1], FIRST, [-1], [0], [6], FIRST])

    def test_refused_leaves_a_field_without_level(self):
        for refused in refused_fields():
            with self.subTest(sizes=refused[1:4]):
                told = ask(begin(), CORNER, refused, triangle(0), cut(1), triangle(0))
                self.assertEqual(told, [[0], [0], [-1], [-4], [6], FIRST])

    def test_range_of_sizes(self):
        # More than 48 values aren't handed in, so the upper end can't be reached through the desk.
        self.assertEqual([size for size in range(-40, 80) if is_size(size)], list(range(2, 33)))
