"""Promise 5: point."""

import math
import unittest
from fractions import Fraction

from tests.helper import (LEAST, MOST, SIZES, ask, ask_all, begin, cut, field, mixed_values, place_of, point, points_of,
                          whole_surface)

FALLING = [10, 4, 7, -2, 1, 0, 5, 8]
RISING = [-10, -4, -7, 2, -1, 0, -5, -8]
WAYS = range(1, 8)
CORNER = field(2, 2, 2, [1, 0, 0, 0, 0, 0, 0, 0])


def from_lowest(values, level):
    """The answers for the seven ways that lead from the lowest corner of a single cube."""
    return ask_all(2, 2, 2, values, level, [point(0, 0, 0, d) for d in WAYS])


def expected_answer(sizes, values, level, start, d):
    """The answer to point, by Python's own fractions."""
    grid = {place: values[place[0] + sizes[0] * (place[1] + sizes[1] * place[2])]
            for place in [(x, y, z) for x in range(sizes[0]) for y in range(sizes[1]) for z in range(sizes[2])]}
    end = place_of(start, d)
    if d not in WAYS or start not in grid or end not in grid:
        return [-1]
    if (grid[start] >= level) is (grid[end] >= level):
        return [-1]
    far = Fraction(level - grid[start], grid[end] - grid[start])
    return [0, far.numerator, far.denominator]


def starts_around(sizes):
    """All places of a grid, and those one step outside."""
    return [(x, y, z) for z in range(-1, sizes[2] + 1) for y in range(-1, sizes[1] + 1)
            for x in range(-1, sizes[0] + 1)]


class TestFractions(unittest.TestCase):
    def test_first_value_above_the_second(self):
        self.assertEqual(from_lowest(FALLING, 9),
                         [[0, 1, 6], [0, 1, 3], [0, 1, 12], [0, 1, 9], [0, 1, 10], [0, 1, 5], [0, 1, 2]])

    def test_first_value_above_the_second_in_lowest_terms(self):
        self.assertEqual(from_lowest(FALLING, 8),
                         [[0, 1, 3], [0, 2, 3], [0, 1, 6], [0, 2, 9], [0, 1, 5], [0, 2, 5], [-1]])

    def test_first_value_below_the_second(self):
        self.assertEqual(from_lowest(RISING, -8),
                         [[0, 1, 3], [0, 2, 3], [0, 1, 6], [0, 2, 9], [0, 1, 5], [0, 2, 5], [0, 1, 1]])

    def test_first_value_is_the_level(self):
        self.assertEqual(from_lowest(FALLING, 10), [[0, 0, 1]] * 7)

    def test_second_value_is_the_level(self):
        self.assertEqual(from_lowest([-9] + [3] * 7, 3), [[0, 1, 1]] * 7)

    def test_first_value_is_the_level_from_below(self):
        # A value that's the level is inside, and so is what lies above.
        self.assertEqual(from_lowest([3] + [9] * 7, 3), [[-1]] * 7)

    def test_second_value_is_the_level_from_above(self):
        self.assertEqual(from_lowest([9] + [3] * 7, 3), [[-1]] * 7)

    def test_far_along_the_way(self):
        self.assertEqual(from_lowest([0] + [100] * 7, 75), [[0, 3, 4]] * 7)
        self.assertEqual(from_lowest([100] + [0] * 7, 75), [[0, 1, 4]] * 7)
        self.assertEqual(from_lowest([100] + [0] * 7, 1), [[0, 99, 100]] * 7)
        self.assertEqual(from_lowest([-100] + [-1] * 7, -34), [[0, 2, 3]] * 7)

    def test_ends_of_the_values(self):
        rising = [-32768] + [32767] * 7
        self.assertEqual(from_lowest(rising, -32767), [[0, 1, 65535]] * 7)
        self.assertEqual(from_lowest(rising, 0), [[0, 32768, 65535]] * 7)
        self.assertEqual(from_lowest(rising, 2), [[0, 6554, 13107]] * 7)
        self.assertEqual(from_lowest(rising, 32767), [[0, 1, 1]] * 7)
        self.assertEqual(from_lowest(rising, 32768), [[-1]] * 7)
        falling = [32767] + [-32768] * 7
        self.assertEqual(from_lowest(falling, -32767), [[0, 65534, 65535]] * 7)
        self.assertEqual(from_lowest(falling, 0), [[0, 32767, 65535]] * 7)
        self.assertEqual(from_lowest(falling, 32767), [[0, 0, 1]] * 7)
        self.assertEqual(from_lowest(falling, 32768), [[-1]] * 7)

    def test_ends_of_the_level(self):
        self.assertEqual(from_lowest([-32768] + [-32767] * 7, -32767), [[0, 1, 1]] * 7)
        self.assertEqual(from_lowest([-32767] + [-32768] * 7, -32767), [[0, 0, 1]] * 7)
        self.assertEqual(from_lowest([32767] * 8, 32768), [[-1]] * 7)


class TestPlaces(unittest.TestCase):
    def test_each_place_and_direction(self):
        for sizes in SIZES:
            nx, ny, nz = sizes
            values = mixed_values(nx * ny * nz, nx + 13 * ny + 57 * nz, -12, 12)
            asked = [(start, d) for start in starts_around(sizes) for d in range(-1, 9)]
            told = ask_all(nx, ny, nz, values, 3, [point(*start, d) for start, d in asked])
            for (start, d), row in zip(asked, told, strict=True):
                with self.subTest(sizes=sizes, start=start, d=d):
                    self.assertEqual(row, expected_answer(sizes, values, 3, start, d))

    def test_last_way_of_a_grid(self):
        told = ask(begin(), field(3, 4, 4, [0] * 47 + [6]), cut(2), point(1, 2, 2, 7), point(2, 3, 2, 4),
                   point(2, 2, 3, 2), point(1, 3, 3, 1), point(1, 3, 2, 5), point(2, 2, 2, 6), point(1, 2, 3, 3))
        self.assertEqual(told[3:], [[0, 1, 3]] * 7)

    def test_each_point_of_each_triangle(self):
        values = mixed_values(48, 99, -500, 500)
        points = {p for row in whole_surface(3, 4, 4, values, 7) for p in points_of(row)}
        for row in ask_all(3, 4, 4, values, 7, [point(*p) for p in sorted(points)]):
            self.assertEqual((len(row), row[0], math.gcd(*row[1:])), (3, 0, 1))
            self.assertTrue(0 <= row[1] <= row[2])


class TestRefusals(unittest.TestCase):
    def check_refused(self, *wheres):
        told = ask(begin(), CORNER, cut(1), *[point(*where) for where in wheres])
        for where, row in zip(wheres, told[3:], strict=True):
            with self.subTest(where=where):
                self.assertEqual(row, [-1])

    def test_refuses_places_outside(self):
        for place in (-1, -2, 2, 3, 32, LEAST, MOST):
            for d in (1, 7):
                self.check_refused((place, 0, 0, d), (0, place, 0, d), (0, 0, place, d), (place, place, place, d))

    def test_refuses_directions_outside(self):
        for d in (0, 8, 9, 15, -1, -7, -8, LEAST, LEAST + 1, MOST):
            self.check_refused((0, 0, 0, d), (1, 1, 1, d))

    def test_refuses_ways_out_of_the_grid(self):
        self.check_refused(*[(1, 1, 1, d) for d in WAYS])
        self.check_refused((1, 0, 0, 1), (1, 0, 0, 3), (0, 1, 0, 2), (0, 1, 0, 6), (0, 0, 1, 4), (0, 0, 1, 5))

    def test_refuses_what_would_lead_into_another_row(self):
        # The list's values go on behind a row's end, the grid doesn't.
        values = [0, 0, 1, 1, 0, 0, 1, 1]
        told = ask(begin(), field(2, 2, 2, values), cut(1), point(1, 0, 0, 1), point(0, 1, 0, 2), point(2, 0, 0, 2),
                   point(-1, 1, 0, 1), point(0, 2, 0, 2), point(0, 0, 0, 2))
        self.assertEqual(told[3:], [[-1], [-1], [-1], [-1], [-1], [0, 1, 1]])

    def test_refuses_ways_that_are_not_cut(self):
        self.check_refused((1, 0, 0, 2), (1, 0, 0, 4), (1, 0, 0, 6), (0, 1, 0, 1), (0, 0, 1, 3), (0, 1, 1, 1))
        for level in (0, 2, -32767, 32768):
            with self.subTest(level=level):
                self.assertEqual(ask(begin(), CORNER, cut(level), *[point(0, 0, 0, d) for d in WAYS])[3:], [[-1]] * 7)
