"""The last sentence of promise 3: what comes behind cut answers -4 where there's no level."""

import unittest

from tests.helper import LEAST, MOST, ask, begin, count, cut, field, hangs, piece, point, triangle

CORNER = field(2, 2, 2, [1, 0, 0, 0, 0, 0, 0, 0])
# With a level at 1 the first row is answered, the second refused with -1.
FITTING = [triangle(0), triangle(5), point(0, 0, 0, 1), point(0, 0, 0, 7), count(), piece(0), hangs(0), hangs(5)]
UNFITTING = [
    *[call(k) for call in (triangle, piece, hangs) for k in (-1, 6, LEAST, MOST)],
    *[point(*where) for where in [(-1, 0, 0, 1), (0, 2, 0, 1), (0, 0, MOST, 1), (LEAST, LEAST, LEAST, LEAST),
                                  (0, 0, 0, 0), (0, 0, 0, 8), (0, 0, 0, -1), (1, 1, 1, 7), (1, 0, 0, 2)]],
]
ASKED = FITTING + UNFITTING
NO_LEVEL = [[-4]] * len(ASKED)


class TestNoLevel(unittest.TestCase):
    def check_no_level(self, *before):
        told = ask(*before, *ASKED)
        self.assertEqual(told[len(before):], NO_LEVEL)

    def test_with_a_level(self):
        told = ask(begin(), CORNER, cut(1), *ASKED)[3:]
        self.assertEqual([row[0] for row in told[:len(FITTING)]], [0, 0, 0, 0, 1, 0, 0, 0])
        self.assertEqual(told[len(FITTING):], [[-1]] * len(UNFITTING))

    def test_behind_begin(self):
        self.check_no_level(begin())
        self.check_no_level(begin(), CORNER, begin())
        self.check_no_level(begin(), CORNER, cut(1), begin())

    def test_behind_a_field(self):
        self.check_no_level(begin(), CORNER)
        self.check_no_level(begin(), CORNER, cut(1), CORNER)
        self.check_no_level(begin(), CORNER, cut(1), begin(), CORNER)

    def test_behind_a_field_that_was_refused(self):
        self.check_no_level(begin(), field(1, 2, 2))
        self.check_no_level(begin(), CORNER, field(2, 33, 2))

    def test_behind_a_cut_that_was_refused(self):
        for level in (-32768, 32769, LEAST, MOST):
            with self.subTest(level=level):
                self.check_no_level(begin(), cut(level))
                self.check_no_level(begin(), CORNER, cut(level))
                self.check_no_level(begin(), CORNER, cut(1), CORNER, cut(level))
        self.check_no_level(begin(), cut(1))
        self.check_no_level(begin(), CORNER, cut(1), begin(), cut(1))

    def test_refused_leaves_the_level(self):
        # A refusal changes nothing: the level that was there before is there still.
        before = ask(begin(), CORNER, cut(1), *ASKED)[3:]
        for refused in (cut(-32768), cut(32769), field(1, 2, 2), field(2, 2, 33), point(0, 0, 0, 8), piece(1),
                        hangs(6)):
            with self.subTest(refused=refused):
                told = ask(begin(), CORNER, cut(1), refused, *ASKED)
                self.assertEqual(told[3], [-1])
                self.assertEqual(told[4:], before)

    def test_asking_without_a_level_changes_nothing(self):
        told = ask(begin(), CORNER, *ASKED, cut(1), *ASKED)
        self.assertEqual(told[2:2 + len(ASKED)], NO_LEVEL)
        self.assertEqual(told[3 + len(ASKED):], ask(begin(), CORNER, cut(1), *ASKED)[3:])
