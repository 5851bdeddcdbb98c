"""Promise 8: hangs."""

import unittest

from tests.helper import (LEAST, MOST, all_hangs, all_pieces, ask, begin, cut, drawn_values, expected_groups,
                          expected_surface, field, hangs, mixed_fields, pattern_values)

CORNER = field(2, 2, 2, [1, 0, 0, 0, 0, 0, 0, 0])


def expected_numbers(rows):
    """The number of each triangle's piece."""
    numbers = [None] * len(rows)
    for number, members in enumerate(expected_groups(rows)):
        for member in members:
            numbers[member] = number
    return numbers


class TestHangs(unittest.TestCase):
    def test_one_piece(self):
        told = ask(begin(), CORNER, cut(1), *[hangs(k) for k in range(6)])
        self.assertEqual(told[3:], [[0]] * 6)

    def test_mixed_numbers(self):
        # By tetrahedra: corner 3 is in the first and third, corner 5 in the second and fifth, corner 6 in the others.
        values = pattern_values((1 << 3) + (1 << 5) + (1 << 6))
        told = ask(begin(), field(2, 2, 2, values), cut(1), *[hangs(k) for k in range(7)])
        self.assertEqual(told[3:], [[0], [1], [0], [2], [1], [2], [-1]])

    def test_mixed_numbers_outside(self):
        values = pattern_values(255 - (1 << 1) - (1 << 2) - (1 << 4))
        told = ask(begin(), field(2, 2, 2, values), cut(1), *[hangs(k) for k in range(7)])
        self.assertEqual(told[3:], [[0], [0], [1], [1], [2], [2], [-1]])

    def test_arms_that_meet_late_around_another(self):
        sizes = (5, 2, 4)
        fork = [(x, 0, z) for x in (0, 4) for z in range(4)] + [(x, 0, 3) for x in range(5)]
        values = drawn_values(sizes, fork + [(2, 0, 0)])
        numbers = all_hangs(*sizes, values, 1)
        self.assertEqual(numbers, expected_numbers(expected_surface(*sizes, values, 1)))
        self.assertEqual((sorted(set(numbers)), numbers[0], numbers[-1]), ([0, 1], 0, 0))

    def test_two_closed_ones(self):
        values = drawn_values((3, 4, 4), [(1, 1, 2), (1, 2, 1)])
        numbers = all_hangs(3, 4, 4, values, 1)
        self.assertEqual(numbers, expected_numbers(expected_surface(3, 4, 4, values, 1)))
        self.assertEqual((numbers.count(0), numbers.count(1)), (24, 24))
        self.assertNotEqual(numbers, sorted(numbers))

    def test_each_cube(self):
        for pattern in range(256):
            with self.subTest(pattern=pattern):
                values = pattern_values(pattern)
                self.assertEqual(all_hangs(2, 2, 2, values, 1), expected_numbers(expected_surface(2, 2, 2, values, 1)))

    def test_mixed_fields(self):
        for sizes, values, level in mixed_fields():
            with self.subTest(sizes=sizes, values=values, level=level):
                self.assertEqual(all_hangs(*sizes, values, level),
                                 expected_numbers(expected_surface(*sizes, values, level)))

    def test_fits_to_the_pieces(self):
        for sizes, values, level in mixed_fields():
            with self.subTest(sizes=sizes, values=values, level=level):
                numbers = all_hangs(*sizes, values, level)
                for k, row in enumerate(all_pieces(*sizes, values, level)):
                    self.assertEqual([numbers.index(k), numbers.count(k)], row[1:3])


class TestRefusals(unittest.TestCase):
    def test_refuses_a_number_that_no_triangle_has(self):
        for k in (-1, -2, -6, 6, 7, 100, LEAST, MOST):
            with self.subTest(k=k):
                self.assertEqual(ask(begin(), CORNER, cut(1), hangs(5), hangs(k))[3:], [[0], [-1]])

    def test_refuses_all_where_the_surface_is_empty(self):
        for k in (-1, 0, 1, LEAST, MOST):
            with self.subTest(k=k):
                self.assertEqual(ask(begin(), CORNER, cut(2), hangs(k), cut(0), hangs(k))[3:], [[-1], [0], [-1]])
