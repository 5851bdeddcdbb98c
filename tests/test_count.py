"""Promise 6: count."""

import unittest

from tests.helper import (ask, begin, count, cut, drawn_values, expected_groups, expected_surface, field, how_many,
                          mixed_fields, pattern_values, points_of, triangle)

# Two arms that are joined at their far end alone: their first triangles come long before those that join them.
FORK_SIZES = (5, 2, 4)
FORK = [(x, 0, z) for x in (0, 4) for z in range(4)] + [(x, 0, 3) for x in range(5)]


class TestCount(unittest.TestCase):
    def test_empty_surface(self):
        told = ask(begin(), field(2, 2, 2, [5] * 8), cut(5), count(), cut(6), count(), cut(-32767), count(),
                   cut(32768), count())
        self.assertEqual(told[2:], [[0]] * 8)

    def test_one_piece(self):
        for pattern in (1, 2, 4, 8, 16, 32, 64, 128, 15, 240, 254, 127):
            with self.subTest(pattern=pattern):
                self.assertEqual(ask(begin(), field(2, 2, 2, pattern_values(pattern)), cut(1), count())[3], [1])

    def test_corners_apart(self):
        # No way leads between corners 3, 5 and 6, nor between 1, 2 and 4.
        for corners, pieces in [((3, 5), 2), ((3, 6), 2), ((5, 6), 2), ((3, 5, 6), 3), ((1, 2), 2), ((1, 2, 4), 3),
                                ((1, 6), 2), ((2, 5), 2), ((0, 7), 1), ((3, 7), 1), ((0, 5), 1)]:
            pattern = sum(1 << corner for corner in corners)
            for inside in (pattern, 255 - pattern):
                with self.subTest(inside=inside):
                    told = ask(begin(), field(2, 2, 2, pattern_values(inside)), cut(1), count())
                    self.assertEqual(told[3], [pieces])

    def test_one_point_in_common(self):
        # Triangles 0 and 4 have one point in common, and no two that stand one behind the other.
        told = ask(begin(), field(2, 2, 2, pattern_values(1)), cut(1), triangle(0), triangle(4), count())
        self.assertEqual(len(set(points_of(told[3])) & set(points_of(told[4]))), 1)
        self.assertEqual(told[5], [1])

    def test_long_chain(self):
        for sizes in [(12, 2, 2), (2, 12, 2), (2, 2, 12)]:
            with self.subTest(sizes=sizes):
                longest = sizes.index(12)
                across = (longest + 1) % 3
                places = [(x, y, z) for x in range(sizes[0]) for y in range(sizes[1]) for z in range(sizes[2])]
                row = [place for place in places if place[across] == 0]
                self.assertEqual(how_many(*sizes, drawn_values(sizes, row), 1), (88, 1))
                apart = [place for place in row if place[longest] != 6]
                self.assertEqual(how_many(*sizes, drawn_values(sizes, apart), 1)[1], 2)

    def test_arms_that_meet_late(self):
        self.assertEqual(how_many(*FORK_SIZES, drawn_values(FORK_SIZES, FORK), 1)[1], 1)
        arms = [place for place in FORK if place != (2, 0, 3)]
        self.assertEqual(how_many(*FORK_SIZES, drawn_values(FORK_SIZES, arms), 1)[1], 2)

    def test_many_pieces(self):
        sizes = (12, 2, 2)
        self.assertEqual(how_many(*sizes, drawn_values(sizes, [(x, 0, 0) for x in range(0, 12, 2)]), 1)[1], 6)
        # No two grid points whose places add up to 3 have a way between them.
        sizes = (3, 4, 4)
        level_three = [(x, y, 3 - x - y) for x in range(3) for y in range(4 - x)]
        self.assertEqual(how_many(*sizes, drawn_values(sizes, level_three), 1)[1], len(level_three))

    def test_mixed_fields(self):
        seen = set()
        for sizes, values, level in mixed_fields():
            with self.subTest(sizes=sizes, values=values, level=level):
                rows = expected_surface(*sizes, values, level)
                pieces = len(expected_groups(rows))
                self.assertEqual(how_many(*sizes, values, level), (len(rows), pieces))
                seen.add(pieces)
        self.assertTrue({0, 1, 2, 3, 4} <= seen, seen)

    def test_each_cube(self):
        for pattern in range(256):
            with self.subTest(pattern=pattern):
                values = pattern_values(pattern)
                pieces = len(expected_groups(expected_surface(2, 2, 2, values, 1)))
                self.assertEqual(how_many(2, 2, 2, values, 1)[1], pieces)
