"""Point 1103: the lines of the journal and their check numbers."""

import random
import unittest

from tensorworks.errors import JournalError
from tensorworks.journal import check_number, journal_line, read_line
from tests.helpers import error_of

TOP = 10 ** 70 - 1


def checked(head):
    """Return the line, without its line feed, of what stands ahead of its check number."""
    return f"{head} check {check_number(head)}"


class CheckNumber(unittest.TestCase):
    def test_numbers(self):
        for text, expected in (("", 0), ("a", 97), ("ab", 97 + 2 * 98), ("ba", 98 + 2 * 97), ("step 0 ; 5 -2", 4602), ("\u20ac", 8364)):
            self.assertEqual(check_number(text), expected)

    def test_modulo(self):
        text = "z" * 5000
        self.assertEqual(check_number(text), 122 * 5000 * 5001 // 2 % 65521)
        self.assertEqual(check_number("\0" * 65520 + "a"), 0)
        self.assertEqual(check_number("\x01" * 361 + "\xb4"), (361 * 362 // 2 + 362 * 180) % 65521)


class Line(unittest.TestCase):
    def test_lines(self):
        self.assertEqual(journal_line(0, ((5, -2),)), "step 0 ; 5 -2 check 4602\n")
        head = "step 12 ; 0 ; -7 100 3"
        self.assertEqual(journal_line(12, ((0,), (-7, 100, 3))), f"{head} check {check_number(head)}\n")

    def test_back(self):
        chance = random.Random(4)
        for _ in range(300):
            sizes = tuple(chance.randint(1, 5) for _ in range(chance.randint(1, 4)))
            weights = tuple(tuple(chance.randint(-10 ** 9, 10 ** 9) // 10 ** chance.randint(0, 9) for _ in range(size)) for size in sizes)
            steps = chance.randint(0, 10 ** chance.randint(0, 60))
            self.assertEqual(read_line(journal_line(steps, weights)[:-1], sizes), (steps, weights))


class Reading(unittest.TestCase):
    def check(self, line, sizes=(2,), right=False):
        self.assertIs(error_of(read_line, line, sizes), None if right else JournalError, line)

    def test_forms(self):
        self.check(checked("step 0 ; 5 -2"), right=True)
        self.check(checked("step 0 ; 5 -2"), (1,))
        self.check(checked("step 0 ; 5 -2"), (3,))
        self.check(checked("step 0 ; 5 -2"), (1, 1))
        self.check(checked("step 0 ; 5 ; -2"), (1, 1), True)
        self.check(checked("step 0 ; 5 ; -2"))
        self.check(checked("step 0 ; 5 ; -2"), (1, 1, 1))
        self.check(checked("step 0 ; 5 ; -2"), (1,))
        for head in (
                "step 0 5 -2", "Step 0 ; 5 -2", "step ; 5 -2", "step 0 0 ; 5 -2", "0 ; 5 -2", "step  0 ; 5 -2", "step 0 ;5 -2",
                "step 0 ; 5 -2 ;", "step 0 ; 5 -2 ", " step 0 ; 5 -2", "step 0 ; 5  -2", "step 0 ; 5 - 2", "step 0 ; 5 -2 3",
                "step 0 ; 5 +2", "step 0 ; 05 2", "step 0 ; 5 -0", "step 0 ; 5 -02", "step 0 ; 5 2.", "step 0 ; 5 x",
                "step 00 ; 5 -2", "step -1 ; 5 -2", "step -0 ; 5 -2", "step x ; 5 -2", "step +1 ; 5 -2", "step 0\t; 5 -2",
                "step 0 ; \u0665 -2", "step \u0660 ; 5 -2", "step 0 : 5 -2", "step 0 ; 5 1_0", "", "step", "step 0", "step 0 ;"):
            self.check(checked(head))

    def test_ends(self):
        line = checked("step 0 ; 5 -2")
        for wrong in (
                "", " ", "check", "step", "step check", "step 0", "step 0 check", "step 0 ; 5 -2", "step 0 ; 5 -2 check", line + " ", line + "0", line + " 0", line + "\n", "\n" + line,
                line.replace("check", "Check"), line.replace(" check ", "  check "), line.replace("check ", "check  "),
                line.replace("4602", "04602"), line.replace("4602", "+4602"), line.replace("4602", "4603"),
                line.replace("4602", str(4602 + 65521)), line.replace("4602", "-4602"), line.replace(" check 4602", ""),
                "check 0", " check 0", "step check 475", line + " check 4602"):
            self.check(wrong)

    def test_digits(self):
        for n, right in ((TOP, True), (-TOP, True), (TOP + 1, False), (-TOP - 1, False)):
            self.check(checked(f"step 0 ; 5 {n}"), (2,), right)
        self.check(checked(f"step {TOP} ; 5 2"), (2,), True)
        self.check(checked(f"step {TOP + 1} ; 5 2"), (2,))
        self.assertEqual(read_line(checked(f"step {TOP} ; {-TOP}"), (1,)), (TOP, ((-TOP,),)))

    def test_a_changed_character(self):
        """Each other ASCII character in any place of a line is found."""
        line = journal_line(10, ((5, -21), (0,)))[:-1]
        for at in range(len(line)):
            for code in range(128):
                if chr(code) not in ("\n", line[at]):
                    self.check(line[:at] + chr(code) + line[at + 1:], (2, 1))

    def test_changed_places(self):
        line = journal_line(10, ((5, -21), (0,)))[:-1]
        for at in range(len(line) - 1):
            if line[at] != line[at + 1]:
                self.check(line[:at] + line[at + 1] + line[at] + line[at + 2:], (2, 1))
            self.check(line[:at] + line[at + 1:], (2, 1))
