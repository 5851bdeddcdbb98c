"""Promise 4: triangle."""

import unittest

from fieldsurface.tetrahedron import is_even
from tests.helper import (LEAST, MOST, OTHER_TABLE, TETRAHEDRA, TURNED, TURNED_TABLE, ask, begin, cut,
                          ends_of, expected_in_tetrahedron, expected_surface, field, mixed_fields, on_a_face,
                          pattern_values, points_of, triangle, whole_surface)

CORNER = field(2, 2, 2, [1, 0, 0, 0, 0, 0, 0, 0])


def tetrahedron_pattern(tetrahedron, inside, rest):
    """The cube whose corners inside are those of the tetrahedron, and, with rest, all that it hasn't."""
    pattern = sum(1 << int(tetrahedron[int(corner)]) for corner in inside)
    if rest:
        pattern += sum(1 << d for d in range(8) if str(d) not in tetrahedron)
    return pattern


def value_at(sizes, values, place):
    return values[place[0] + sizes[0] * (place[1] + sizes[1] * place[2])]


def normal_of(points):
    """Where a triangle faces, laid through the middles of its points' ways."""
    p, q, r = [[a + b for a, b in zip(*ends_of(point))] for point in points]
    u = [b - a for a, b in zip(p, q)]
    v = [b - a for a, b in zip(p, r)]
    return [u[1] * v[2] - u[2] * v[1], u[2] * v[0] - u[0] * v[2], u[0] * v[1] - u[1] * v[0]]


class TestWrittenOut(unittest.TestCase):
    def test_corner_0_inside(self):
        told = ask(begin(), CORNER, cut(1), *[triangle(k) for k in range(6)])
        self.assertEqual(told[3:], [
            [0, 0, 0, 0, 1, 0, 0, 0, 3, 0, 0, 0, 7],
            [0, 0, 0, 0, 1, 0, 0, 0, 7, 0, 0, 0, 5],
            [0, 0, 0, 0, 2, 0, 0, 0, 7, 0, 0, 0, 3],
            [0, 0, 0, 0, 2, 0, 0, 0, 6, 0, 0, 0, 7],
            [0, 0, 0, 0, 4, 0, 0, 0, 5, 0, 0, 0, 7],
            [0, 0, 0, 0, 4, 0, 0, 0, 7, 0, 0, 0, 6],
        ])

    def test_corner_1_inside(self):
        told = ask(begin(), field(2, 2, 2, [0, 1, 0, 0, 0, 0, 0, 0]), cut(1), triangle(0), triangle(1), triangle(2))
        self.assertEqual(told[2:], [
            [2],
            [0, 0, 0, 0, 1, 1, 0, 0, 6, 1, 0, 0, 2],
            [0, 0, 0, 0, 1, 1, 0, 0, 4, 1, 0, 0, 6],
            [-1],
        ])

    def test_corner_7_outside(self):
        told = ask(begin(), field(2, 2, 2, [1, 1, 1, 1, 1, 1, 1, 0]), cut(1), triangle(0), triangle(1))
        self.assertEqual(told[2:], [
            [6],
            [0, 0, 0, 0, 7, 1, 0, 0, 6, 1, 1, 0, 4],
            [0, 0, 0, 0, 7, 1, 0, 1, 2, 1, 0, 0, 6],
        ])

    def test_corners_0_1_4_5_inside(self):
        told = ask(begin(), field(2, 2, 2, [1, 1, 0, 0, 1, 1, 0, 0]), cut(1), *[triangle(k) for k in range(9)])
        self.assertEqual(told[2:], [
            [8],
            [0, 0, 0, 0, 3, 0, 0, 0, 7, 1, 0, 0, 6],
            [0, 0, 0, 0, 3, 1, 0, 0, 6, 1, 0, 0, 2],
            [0, 0, 0, 0, 7, 1, 0, 1, 2, 1, 0, 0, 6],
            [0, 0, 0, 0, 2, 0, 0, 0, 7, 0, 0, 0, 3],
            [0, 0, 0, 0, 2, 0, 0, 0, 6, 0, 0, 0, 7],
            [0, 0, 0, 0, 7, 0, 0, 1, 3, 1, 0, 1, 2],
            [0, 0, 0, 0, 6, 0, 0, 1, 3, 0, 0, 0, 7],
            [0, 0, 0, 0, 6, 0, 0, 1, 2, 0, 0, 1, 3],
            [-1],
        ])

    def test_second_cube_along_each_side(self):
        # The last grid point alone inside: only the last cube is cut.
        for sizes, lowest in [((3, 2, 2), [1, 0, 0]), ((2, 3, 2), [0, 1, 0]), ((2, 2, 3), [0, 0, 1])]:
            with self.subTest(sizes=sizes):
                told = ask(begin(), field(*sizes, [0] * 11 + [1]), cut(1), triangle(0), triangle(6))
                self.assertEqual(told[2], [6])
                self.assertEqual(told[3][:5], [0, *lowest, 7])
                self.assertEqual(told[4], [-1])


class TestCases(unittest.TestCase):
    def check_tetrahedron(self, tetrahedron, inside, rest):
        values = pattern_values(tetrahedron_pattern(tetrahedron, inside, rest))
        rows = {
            other: expected_in_tetrahedron((0, 0, 0), other, lambda p: values[p[0] + 2 * p[1] + 4 * p[2]], 1)
            for other in TETRAHEDRA
        }
        before = sum(len(rows[other]) for other in TETRAHEDRA[:TETRAHEDRA.index(tetrahedron)])
        asked = [triangle(before + k) for k in range(len(rows[tetrahedron]))]
        told = ask(begin(), field(2, 2, 2, values), cut(1), *asked)
        self.assertEqual(told[2], [sum(len(row) for row in rows.values())])
        self.assertEqual(told[3:], rows[tetrahedron])

    def test_each_case_of_each_tetrahedron(self):
        for tetrahedron in TETRAHEDRA:
            for inside in TURNED_TABLE:
                for rest in (False, True):
                    with self.subTest(tetrahedron=tetrahedron, inside=inside, rest=rest):
                        self.check_tetrahedron(tetrahedron, inside, rest)

    def test_each_cube(self):
        for pattern in range(256):
            values = pattern_values(pattern)
            with self.subTest(pattern=pattern):
                self.assertEqual(whole_surface(2, 2, 2, values, 1), expected_surface(2, 2, 2, values, 1))

    def test_even(self):
        self.assertTrue(is_even([0, 1, 2, 3]))
        self.assertFalse(is_even([1, 0, 2, 3]))
        self.assertTrue(is_even([1, 2, 0, 3]))
        self.assertFalse(is_even([3, 0, 1, 2]))
        self.assertTrue(is_even([2, 3, 0, 1]))
        self.assertTrue(is_even([3, 2, 1, 0]))

    def test_tables_turn_every_triangle_over(self):
        # The tables were written by hand: a tetrahedron that isn't turned has just the same triangles, the other
        # way round.
        self.assertEqual(len(TURNED), 3)
        for inside, rows in TURNED_TABLE.items():
            for row, other in zip(rows, OTHER_TABLE[inside], strict=True):
                with self.subTest(inside=inside):
                    first, second, third = row.split()
                    self.assertEqual(other.split(), [first, third, second])


class TestWholeSurfaces(unittest.TestCase):
    def check_each(self, check):
        for sizes, values, level in mixed_fields():
            with self.subTest(sizes=sizes, values=values, level=level):
                check(sizes, values, level, whole_surface(*sizes, values, level))

    def test_in_their_order(self):
        def check(sizes, values, level, told):
            self.assertEqual(told, expected_surface(*sizes, values, level))

        self.check_each(check)

    def test_values_at_the_ends(self):
        values = [-32768, 32767] * 4
        for level in (-32767, 0, 32767):
            self.assertEqual(whole_surface(2, 2, 2, values, level), expected_surface(2, 2, 2, values, level))

    def test_points_lie_on_ways_that_are_cut(self):
        def check(sizes, values, level, told):
            for row in told:
                for point in points_of(row):
                    highs = [value_at(sizes, values, end) >= level for end in ends_of(point)]
                    self.assertEqual(sorted(highs), [False, True])

        self.check_each(check)

    def test_turned_outward(self):
        def check(sizes, values, level, told):
            for row in told:
                points = points_of(row)
                normal = normal_of(points)
                for point in points:
                    start, end = ends_of(point)
                    along = sum(n * (b - a) for n, a, b in zip(normal, start, end))
                    self.assertNotEqual(along, 0)
                    self.assertEqual(along > 0, value_at(sizes, values, start) >= level)

        self.check_each(check)

    def test_meet_side_to_side(self):
        def check(sizes, values, level, told):
            sides = {}
            for row in told:
                points = points_of(row)
                for at in range(3):
                    side = (points[at], points[(at + 1) % 3])
                    self.assertNotIn(side, sides)
                    sides[side] = True
            for first, second in sides:
                if (second, first) not in sides:
                    self.assertTrue(on_a_face(sizes, [*ends_of(first), *ends_of(second)]))

        self.check_each(check)


class TestRefusals(unittest.TestCase):
    def test_refuses_a_number_that_no_triangle_has(self):
        for k in (-1, -2, -6, 6, 7, 100, LEAST, MOST):
            with self.subTest(k=k):
                self.assertEqual(ask(begin(), CORNER, cut(1), triangle(k)), [[0], [0], [6], [-1]])

    def test_answers_the_first_and_the_last(self):
        told = ask(begin(), CORNER, cut(1), triangle(0), triangle(5))
        self.assertEqual([len(row) for row in told], [1, 1, 1, 13, 13])

    def test_refuses_all_where_the_surface_is_empty(self):
        for k in (-1, 0, 1, LEAST, MOST):
            with self.subTest(k=k):
                self.assertEqual(ask(begin(), CORNER, cut(2), triangle(k)), [[0], [0], [0], [-1]])

    def test_no_level_comes_first(self):
        for k in (-1, 0, 6, LEAST, MOST):
            with self.subTest(k=k):
                self.assertEqual(ask(begin(), triangle(k)), [[0], [-4]])
                self.assertEqual(ask(begin(), CORNER, triangle(k)), [[0], [0], [-4]])
                self.assertEqual(ask(begin(), CORNER, cut(1), CORNER, triangle(k))[4], [-4])
                self.assertEqual(ask(begin(), CORNER, cut(1), begin(), triangle(k))[4], [-4])

    def test_refused_changes_nothing(self):
        told = ask(begin(), CORNER, cut(1), triangle(0), triangle(6), triangle(-1), triangle(0), cut(1))
        self.assertEqual(told[4:6], [[-1], [-1]])
        self.assertEqual(told[6], told[3])
        self.assertEqual(told[7], [6])

    def test_asking_changes_nothing(self):
        told = ask(begin(), CORNER, cut(1), *[triangle(2)] * 97)
        self.assertEqual(told[3:], [told[3]] * 97)
