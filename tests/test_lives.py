"""Point 701: lives."""

import unittest

from tensorworks.lives import lives, meet
from tests.programs import ZERO, apply, copy, form, guard, load, loop, num, pick, put, var, when


class Lives(unittest.TestCase):
    def test_first_and_last_statement(self):
        buffers = (("main", 4), ("in", 4), ("main", 4), ("main", 4), ("main", 4), ("near", 4))
        body = (
            put(0, ZERO, num(1)),
            put(2, ZERO, load(0)),
            put(0, ZERO, load(1)),
            put(2, ZERO, load(1)),
            put(3, ZERO, num(1)))
        self.assertEqual(lives((buffers, body), ()), ((0, 2), (1, 3), (4, 4), (0, 0)))

    def test_outputs(self):
        buffers = (("in", 1), ("main", 1), ("main", 1), ("near", 1))
        body = (put(1, ZERO, num(1)), put(1, ZERO, num(2)), put(3, ZERO, num(2)))
        self.assertEqual(lives((buffers, body), (1,)), ((0, 3), (0, 0)))
        self.assertEqual(lives((buffers, body), (2, 2, 0, 3)), ((0, 1), (0, 3)))
        self.assertEqual(lives((buffers, ()), (1,)), ((0, 0), (0, 0)))

    def test_any_depth(self):
        """Each place in which a buffer can occur."""
        buffers = (("main", 4),) * 9 + (("near", 4), ("in", 4))
        inside = (
            put(1, ZERO, apply("add", load(2), guard(ZERO, load(3), load(4)))),
            put(9, ZERO, pick(5, ZERO, 1, 2, pick(6, ZERO, 1, 2, num(1)))),
            copy(9, ZERO, 7, ZERO, 1), copy(8, ZERO, 9, ZERO, 1))
        body = (put(9, ZERO, num(0)), loop(0, 0, 1, 2, when(var(0), loop(1, 0, 1, 2, *inside))), put(9, form(1), num(0)))
        self.assertEqual(lives((buffers, body), ()), ((0, 0),) + ((1, 1),) * 8)

    def test_no_buffers(self):
        self.assertEqual(lives(((), ()), ()), ())
        self.assertEqual(lives(((("in", 3),), ()), (0,)), ())


class Meet(unittest.TestCase):
    def test_meet(self):
        self.assertIs(meet((0, 2), (2, 5)), True)
        self.assertIs(meet((0, 2), (3, 5)), False)
        for one in range(4):
            for end in range(one, 4):
                for other in range(4):
                    for last in range(other, 4):
                        common = set(range(one, end + 1)) & set(range(other, last + 1))
                        self.assertIs(meet((one, end), (other, last)), bool(common))
