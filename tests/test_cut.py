"""Promise 3: cut."""

import unittest

from tests.helper import LEAST, MOST, ask, begin, cut, expected_surface, field, mixed_values, pattern_values, triangle

CORNER_VALUES = [1, 0, 0, 0, 0, 0, 0, 0]
CORNER = field(2, 2, 2, CORNER_VALUES)
FIRST = [0, 0, 0, 0, 1, 0, 0, 0, 3, 0, 0, 0, 7]
OUTSIDE = [-32768, 32769, -32769, 32770, -65536, 65536, LEAST, MOST]


class TestCut(unittest.TestCase):
    def test_counts_the_triangles_around_each_corner(self):
        # As many as there are tetrahedra with that corner.
        for corner, count in enumerate([6, 2, 2, 2, 2, 2, 2, 6]):
            with self.subTest(corner=corner):
                self.assertEqual(ask(begin(), field(2, 2, 2, pattern_values(1 << corner)), cut(1))[2], [count])
                self.assertEqual(ask(begin(), field(2, 2, 2, pattern_values(255 - (1 << corner))), cut(1))[2], [count])

    def test_counts_two_triangles_for_two_and_two(self):
        # The lower face inside: two tetrahedra have three corners there, two have two, two have one.
        self.assertEqual(ask(begin(), field(2, 2, 2, [9, 9, 9, 9, 1, 1, 1, 1]), cut(5))[2], [8])

    def test_counts_none_where_all_or_none_is_inside(self):
        told = ask(begin(), field(2, 2, 2, [5] * 8), cut(5), triangle(0), cut(6), triangle(0), cut(4), triangle(0))
        self.assertEqual(told, [[0], [0], [0], [-1], [0], [-1], [0], [-1]])

    def test_value_that_is_just_the_level_is_inside(self):
        told = ask(begin(), field(2, 2, 2, [5, 4, 4, 4, 4, 4, 4, 4]), cut(4), cut(5), cut(6))
        self.assertEqual(told, [[0], [0], [0], [6], [0]])
        told = ask(begin(), field(2, 2, 2, [0, 3, 0, 0, 0, 0, 0, -1]), cut(-1), cut(0), cut(1), cut(3), cut(4))
        self.assertEqual(told, [[0], [0], [0], [6], [2], [2], [0]])

    def test_each_cube_counts(self):
        for nx, ny, nz in [(3, 4, 4), (2, 2, 12), (12, 2, 2), (2, 12, 2), (2, 3, 4), (5, 3, 3)]:
            values = mixed_values(nx * ny * nz, nx + 10 * ny + 100 * nz, -20, 20)
            for level in (-21, -20, -5, 0, 1, 13, 20, 21):
                with self.subTest(sizes=(nx, ny, nz), level=level):
                    count = len(expected_surface(nx, ny, nz, values, level))
                    self.assertEqual(ask(begin(), field(nx, ny, nz, values), cut(level))[2], [count])

    def test_most_triangles(self):
        values = [(x + y + z) % 2 for z in range(4) for y in range(4) for x in range(3)]
        told = ask(begin(), field(3, 4, 4, values), cut(1), triangle(215), triangle(216))
        self.assertEqual(told[2], [216])
        self.assertEqual([len(row) for row in told[3:]], [13, 1])

    def test_level_can_come_again(self):
        told = ask(begin(), CORNER, cut(1), cut(0), triangle(0), cut(1), triangle(0))
        self.assertEqual(told, [[0], [0], [6], [0], [-1], [6], FIRST])

    def test_refuses_where_there_is_no_field(self):
        for level in [0, 1, -32767, 32768, *OUTSIDE]:
            with self.subTest(level=level):
                self.assertEqual(ask(begin(), cut(level), triangle(0)), [[0], [-1], [-4]])

    def test_takes_both_ends_of_the_level(self):
        values = [-32767, -32768, -32768, -32768, -32768, -32768, -32768, -32768]
        told = ask(begin(), field(2, 2, 2, values), cut(-32767), triangle(0), cut(-32768), cut(-32766))
        self.assertEqual(told, [[0], [0], [6], FIRST, [-1], [0]])
        values = [32767, 32766, 32766, 32766, 32766, 32766, 32766, 32766]
        told = ask(begin(), field(2, 2, 2, values), cut(32767), triangle(0), cut(32768), triangle(0), cut(32769))
        self.assertEqual(told, [[0], [0], [6], FIRST, [0], [-1], [-1]])

    def test_refuses_a_level_outside(self):
        for level in OUTSIDE:
            with self.subTest(level=level):
                self.assertEqual(ask(begin(), CORNER, cut(level)), [[0], [0], [-1]])

    def test_refused_leaves_the_level(self):
        for level in OUTSIDE:
            with self.subTest(level=level):
                told = ask(begin(), CORNER, cut(1), cut(level), triangle(0), triangle(6), cut(1))
                self.assertEqual(told, [[0], [0], [6], [-1], FIRST, [-1], [6]])

    def test_refused_leaves_no_level(self):
        for level in OUTSIDE:
            with self.subTest(level=level):
                told = ask(begin(), CORNER, cut(level), triangle(0), cut(1), triangle(0))
                self.assertEqual(told, [[0], [0], [-1], [-4], [6], FIRST])
