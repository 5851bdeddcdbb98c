"""What the document says of the whole program: calls in any order, of any number up to a hundred."""

import unittest

from fieldsurface.desk import answers
from tests.helper import (Locked, ask, begin, count, cut, expected_groups, expected_piece, expected_surface, field,
                          hangs, mixed_values, pattern_values, piece, point, triangle)

LARGE = [(3, 4, 4), (4, 4, 3), (12, 2, 2), (2, 12, 2), (2, 2, 12), (2, 4, 6)]
# Corners 3 and 5 are 9, corner 6 is 5, all others 0.
THREE = field(2, 2, 2, [0, 0, 0, 9, 0, 9, 5, 0])
ASKED = [triangle(0), triangle(5), triangle(6), point(0, 0, 0, 3), point(0, 0, 0, 6), point(0, 0, 0, 7), count(),
         piece(0), piece(2), piece(3), hangs(3), hangs(5), hangs(6), hangs(-1)]


class TestNothingChanges(unittest.TestCase):
    def test_asking_changes_neither_field_nor_level(self):
        plain = ask(begin(), THREE, cut(5), *ASKED)[3:]
        for asked in ASKED:
            with self.subTest(asked=asked):
                told = ask(begin(), THREE, cut(5), asked, asked, *ASKED, cut(5), *ASKED)
                self.assertEqual(told[3], told[4])
                self.assertEqual(told[5:], [*plain, [6], *plain])

    def test_asking_in_another_order(self):
        told = ask(begin(), THREE, cut(5), *ASKED)[3:]
        self.assertEqual(ask(begin(), THREE, cut(5), *ASKED[::-1])[3:], told[::-1])


class TestLevels(unittest.TestCase):
    def test_second_cut_gives_another_surface(self):
        told = ask(begin(), THREE, cut(5), count(), piece(2), hangs(3), point(0, 0, 0, 6), point(0, 0, 0, 3),
                   cut(6), count(), piece(2), hangs(3), point(0, 0, 0, 6), point(0, 0, 0, 3),
                   cut(0), count(), piece(0), hangs(0), point(0, 0, 0, 6), point(0, 0, 0, 3))
        self.assertEqual(told[2:], [
            [6], [3], [0, 3, 2, 4, 5, 4], [2], [0, 1, 1], [0, 5, 9],
            [4], [2], [-1], [1], [-1], [0, 2, 3],
            [0], [0], [-1], [-1], [-1], [-1],
        ])

    def test_another_field_gives_another_surface(self):
        told = ask(begin(), THREE, cut(5), count(), field(2, 2, 2, pattern_values(1)), count(), cut(1), count(),
                   piece(0), piece(1), hangs(3), point(0, 0, 0, 3))
        self.assertEqual(told[2:], [[6], [3], [0], [-4], [6], [1], [0, 0, 6, 7, 12, 6], [-1], [0], [0, 0, 1]])


class TestManyCalls(unittest.TestCase):
    def test_hundred_calls_over_the_largest_fields(self):
        for sizes in LARGE:
            with self.subTest(sizes=sizes):
                values = mixed_values(48, sum(sizes), -32768, 32767)
                group = [field(*sizes, values), cut(0), triangle(3), point(0, 0, 0, 7), count(), piece(0), hangs(3),
                         cut(-9000), piece(1)]
                told = ask(begin(), *group * 11)
                self.assertEqual(len(told), 100)
                self.assertEqual(told[1:], told[1:10] * 11)
                rows = expected_surface(*sizes, values, 0)
                groups = expected_groups(rows)
                self.assertEqual([told[2], told[3], told[5], told[6]],
                                 [[len(rows)], rows[3], [len(groups)], expected_piece(rows, groups[0])])

    def test_hundred_calls_of_one_kind(self):
        # Every second grid point inside: as many triangles as a field of 48 values can have.
        values = [(x + y + z) % 2 for z in range(4) for y in range(4) for x in range(3)]
        rows = expected_surface(3, 4, 4, values, 1)
        groups = expected_groups(rows)
        for asked, answer in [(cut(1), [216]), (count(), [len(groups)]), (piece(0), expected_piece(rows, groups[0])),
                              (hangs(0), [0]), (triangle(215), rows[215]), (point(0, 0, 0, 1), [0, 1, 1])]:
            with self.subTest(asked=asked):
                told = ask(begin(), field(3, 4, 4, values), cut(1), *[asked] * 97)
                self.assertEqual(told[3:], [answer] * 97)

    def test_hundred_large_fields(self):
        # 5248 numbers, and each surface another one.
        fields = [field(4, 3, 4, mixed_values(48, seed, -99, 99)) for seed in range(49)]
        calls = [begin()] + [call for each in fields for call in (each, cut(10))] + [count()]
        told = ask(*calls)
        self.assertEqual(len(told), 100)
        for at, each in enumerate(fields):
            self.assertEqual(told[2 + 2 * at], [len(expected_surface(4, 3, 4, each[5:], 10))])


class TestNothingIsKept(unittest.TestCase):
    calls = [number for call in [begin(), THREE, cut(5), *ASKED] for number in call]

    def test_same_answers_each_time(self):
        first = answers(list(self.calls))
        kept = list(first)
        other = [number for call in [begin(), field(3, 4, 4, mixed_values(48, 3, -9, 9)), cut(1), *ASKED]
                 for number in call]
        self.assertNotEqual(answers(other), kept)
        self.assertEqual(first, kept)
        first.clear()
        self.assertEqual(answers(list(self.calls)), kept)

    def test_no_level_at_the_next_beginning(self):
        answers(list(self.calls))
        asked = [number for call in [begin(), *ASKED, cut(5)] for number in call]
        self.assertEqual(answers(asked), [1, 0] + [1, -4] * len(ASKED) + [1, -1])

    def test_what_is_handed_in_stays(self):
        handed = list(self.calls)
        answers(handed)
        self.assertEqual(handed, self.calls)
        self.assertEqual(answers(Locked(self.calls)), answers(handed))
