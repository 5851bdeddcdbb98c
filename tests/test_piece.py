"""Promise 7: piece."""

import unittest

from tests.helper import (LEAST, MOST, all_pieces, ask, begin, cut, drawn_values, ends_of, expected_groups,
                          expected_piece, expected_surface, field, mixed_fields, on_a_face, pattern_values, piece,
                          place_of, points_of, whole_surface)

CORNER = field(2, 2, 2, [1, 0, 0, 0, 0, 0, 0, 0])


def count_cut_ways(sizes, values, level):
    """How many ways of the grid are cut: each has a point of the surface."""
    nx, ny, nz = sizes
    inside = {(x, y, z): values[x + nx * (y + ny * z)] >= level
              for z in range(nz) for y in range(ny) for x in range(nx)}
    ends = [(start, place_of(start, d)) for start in inside for d in range(1, 8)]
    return sum(1 for start, end in ends if end in inside and inside[start] != inside[end])


class TestWrittenOut(unittest.TestCase):
    def test_corners_of_one_cube(self):
        # Six triangles like a fan around the point on the cube's longest way, or two with one side in common.
        for corner in range(8):
            for pattern in (1 << corner, 255 - (1 << corner)):
                with self.subTest(pattern=pattern):
                    told = ask(begin(), field(2, 2, 2, pattern_values(pattern)), cut(1), piece(0), piece(1))
                    whole = [0, 0, 6, 7, 12, 6] if corner in (0, 7) else [0, 0, 2, 4, 5, 4]
                    self.assertEqual(told[3:], [whole, [-1]])

    def test_sheet_through_one_cube(self):
        # Eight triangles between the lower face and the upper one: nine points, one on each way between the faces.
        told = ask(begin(), field(2, 2, 2, [9, 9, 9, 9, 1, 1, 1, 1]), cut(5), piece(0), piece(1))
        self.assertEqual(told[3:], [[0, 0, 8, 9, 16, 8], [-1]])

    def test_closed(self):
        # All around one grid point in the middle: two points for each direction.
        for high, low in ((1, 0), (0, 1)):
            with self.subTest(high=high):
                values = drawn_values((3, 3, 3), [(1, 1, 1)], high, low)
                told = ask(begin(), field(3, 3, 3, values), cut(1), piece(0), piece(1))
                self.assertEqual(told[2:], [[24], [0, 0, 24, 14, 36, 0], [-1]])

    def test_two_closed(self):
        values = drawn_values((3, 4, 4), [(1, 1, 2), (1, 2, 1)])
        told = ask(begin(), field(3, 4, 4, values), cut(1), piece(0), piece(1), piece(2))
        self.assertEqual([row[2:] for row in told[3:5]], [[24, 14, 36, 0]] * 2)
        self.assertEqual(told[3][1], 0)
        self.assertEqual(told[5], [-1])
        self.assertEqual([row[1:2] for row in told[3:5]],
                         [group[:1] for group in expected_groups(expected_surface(3, 4, 4, values, 1))])

    def test_several_in_the_order_of_their_first_triangles(self):
        # Corner 3 has triangles 0 and 2, corner 5 has 1 and 4, corner 6 has 3 and 5.
        values = pattern_values((1 << 3) + (1 << 5) + (1 << 6))
        told = ask(begin(), field(2, 2, 2, values), cut(1), *[piece(k) for k in range(4)])
        self.assertEqual(told[2:], [[6], [0, 0, 2, 4, 5, 4], [0, 1, 2, 4, 5, 4], [0, 3, 2, 4, 5, 4], [-1]])

    def test_pieces_of_different_kinds(self):
        # A closed one around a grid point within, then one that ends at the three faces of the grid's last corner.
        values = drawn_values((3, 4, 4), [(1, 1, 1), (2, 3, 3)])
        told = ask(begin(), field(3, 4, 4, values), cut(1), piece(0), piece(1), piece(2))
        self.assertEqual(told[2:], [[30], [0, 0, 24, 14, 36, 0], [0, 24, 6, 7, 12, 6], [-1]])

    def test_order_is_not_by_size(self):
        # The last corner of the first row first, with two triangles, then the last corner of all with six.
        values = drawn_values((3, 3, 3), [(2, 0, 0), (2, 2, 2)])
        told = ask(begin(), field(3, 3, 3, values), cut(1), piece(0), piece(1))
        self.assertEqual(told[2:], [[8], [0, 0, 2, 4, 5, 4], [0, 2, 6, 7, 12, 6]])

    def test_ends_of_the_values(self):
        values = drawn_values((3, 3, 3), [(1, 1, 1)], 32767, -32768)
        for level in (-32767, 0, 32767):
            with self.subTest(level=level):
                told = ask(begin(), field(3, 3, 3, values), cut(level), piece(0))
                self.assertEqual(told[3], [0, 0, 24, 14, 36, 0])


class TestAllPieces(unittest.TestCase):
    def test_each_cube(self):
        for pattern in range(256):
            with self.subTest(pattern=pattern):
                values = pattern_values(pattern)
                rows = expected_surface(2, 2, 2, values, 1)
                self.assertEqual(all_pieces(2, 2, 2, values, 1),
                                 [expected_piece(rows, members) for members in expected_groups(rows)])

    def test_mixed_fields(self):
        for sizes, values, level in mixed_fields():
            with self.subTest(sizes=sizes, values=values, level=level):
                rows = expected_surface(*sizes, values, level)
                self.assertEqual(all_pieces(*sizes, values, level),
                                 [expected_piece(rows, members) for members in expected_groups(rows)])

    def test_each_triangle_has_three_sides(self):
        for sizes, values, level in mixed_fields():
            with self.subTest(sizes=sizes, values=values, level=level):
                for row in all_pieces(*sizes, values, level):
                    self.assertEqual(3 * row[2], 2 * row[4] - row[5])

    def test_each_point_is_in_one_piece(self):
        for sizes, values, level in mixed_fields():
            with self.subTest(sizes=sizes, values=values, level=level):
                told = all_pieces(*sizes, values, level)
                self.assertEqual(sum(row[3] for row in told), count_cut_ways(sizes, values, level))

    def test_rims_lie_on_the_outer_faces(self):
        for sizes, values, level in mixed_fields():
            with self.subTest(sizes=sizes, values=values, level=level):
                sides = {frozenset((points[at - 1], points[at]))
                         for points in map(points_of, whole_surface(*sizes, values, level)) for at in range(3)}
                outer = sum(on_a_face(sizes, [*ends_of(first), *ends_of(second)]) for first, second in sides)
                self.assertEqual(sum(row[5] for row in all_pieces(*sizes, values, level)), outer)


class TestRefusals(unittest.TestCase):
    def test_refuses_a_number_that_no_piece_has(self):
        two = field(2, 2, 2, pattern_values((1 << 3) + (1 << 5)))
        for k in (-1, -2, -3, 2, 3, 4, 100, LEAST, MOST):
            with self.subTest(k=k):
                self.assertEqual(ask(begin(), two, cut(1), piece(1), piece(k))[3:], [[0, 1, 2, 4, 5, 4], [-1]])

    def test_refuses_all_where_the_surface_is_empty(self):
        for k in (-1, 0, 1, LEAST, MOST):
            with self.subTest(k=k):
                self.assertEqual(ask(begin(), CORNER, cut(2), piece(k), cut(0), piece(k))[3:], [[-1], [0], [-1]])
