"""Point 804: the text of code."""

import random
import unittest

from tensorworks.errors import FormError, MachineError, RangeError, TensorError, TextError, TooLarge
from tensorworks.listing import read_code, write_code
from tests.codes import random_code
from tests.helpers import error_of
from tests.test_instructions import END, FORMS, LOOP, MACHINE, SET, nested

TEXT = (
    "set 1 5\ndo add 1 2 2 3 0\ndo neg 1 1 2 0\ndo clamp 1 1 2 2 -1 1\ndo shift 1 1 2 1 3\ndo where 1 3 2 3 4 0\nload 1 2 3\n"
    "store 1 2 3\nmac 1 2 3 4 5 2\nvector mul 1 2 3 4\nloop 1 0 1 5\nend\nskip 1 0\nin 0 1 2 3 4 5\nout 1 1 2 3 4 5\nwait 0\n")


def error(text, machine=MACHINE):
    return error_of(read_code, machine, text)


class Write(unittest.TestCase):
    def test_each_form(self):
        self.assertEqual(write_code(MACHINE, FORMS), TEXT)
        self.assertEqual(write_code(MACHINE, ()), "")
        self.assertEqual(write_code(MACHINE, (("do", "clamp", 3, (2,), (-5, 5)),)), "do clamp 3 1 2 2 -5 5\n")

    def test_errors(self):
        for code, expected in (((("set", 0),), FormError), ((("set", 32, 0),), RangeError), (nested(18), TooLarge)):
            self.assertIs(error_of(write_code, MACHINE, code), expected)
            self.assertIs(error_of(write_code, (0,) + MACHINE[1:], code), MachineError)


class Read(unittest.TestCase):
    def test_each_form(self):
        self.assertEqual(read_code(MACHINE, TEXT), FORMS)
        self.assertEqual(read_code(MACHINE, ""), ())
        self.assertEqual(read_code(MACHINE, "do clamp 3 1 2 2 -5 5\n"), (("do", "clamp", 3, (2,), (-5, 5)),))

    def test_written_and_read(self):
        for seed in range(60):
            code = random_code(seed, MACHINE)
            self.assertEqual(read_code(MACHINE, write_code(MACHINE, code)), code)

    def test_texts_of_no_code(self):
        for text in (
                "\n", " ", "end", "set 1 5", "set 1 5\n\n", "\nset 1 5\n", "set 1\n", "set 1 5 6\n", "set  1 5\n", " set 1 5\n", "set 1 5 \n",
                "set 1 05\n", "set 1 +5\n", "set 1 -0\n", "set 1 5\r\n", "set\t1 5\n", "Set 1 5\n", "jump 1\n", "set 1 x\n", "set 1 5.0\n",
                "set 1 \u0665\n", "do sum 1 1 2 0\n", "do neg 1\n", "do neg 1 1 2\n", "do neg 1 1 2 1\n", "do neg 1 -1 2 0\n",
                "do neg 1 2 2 0\n", "do neg 1 1 2 -1\n", "do neg 1 1 2 0 0\n", "do  1 1 2 0\n", "vector sum 1 2 3 4\n", "vector 1 2 3 4\n",
                "end 1\n", "end \n", "wait\n", "set 1 - 5\n", "set 1 --5\n", "do\n", "vector\n", "do neg 1 9" + "9" * 20 + " 2 0\n"):
            self.assertIs(error(text), TextError, text)

    def test_digits(self):
        ninety = "9" * 90
        self.assertIs(error(f"set 1 {ninety}\n"), RangeError)
        self.assertIs(error(f"set 1 -{ninety}\n"), RangeError)
        self.assertIs(error(f"set 1 {ninety}9\n"), TextError)
        self.assertIs(error(f"set 1 -{ninety}9\n"), TextError)
        self.assertIs(error(f"do neg {ninety} 1 2 0\n"), RangeError)
        self.assertIs(error(f"do neg 1 1 {ninety}9 0\n"), TextError)
        wide = (256,) + MACHINE[1:]
        n = (1 << 255) - 1
        self.assertEqual(read_code(wide, f"set 1 {n}\n"), (("set", 1, n),))

    def test_other_numbers_of_sources_and_fields(self):
        """They have a text, so it is check_code that refuses them."""
        for text in ("do neg 1 2 2 3 0\n", "do neg 1 0 0\n", "do add 1 2 2 3 1 7\n", "do clamp 1 1 2 0\n", "vector neg 1 2 3 4\n",
                     "vector where 1 2 3 4\n", "end\n", "loop 1 0 1 5\n", "skip 1 1\n"):
            self.assertIs(error(text), FormError)
        self.assertIs(error("set 1 5\nset 32 5\n"), RangeError)
        self.assertIs(error("loop 0 0 1 2\n" * 18 + "end\n" * 18), TooLarge)

    def test_order_of_errors(self):
        self.assertIs(error("jump\n", machine=(0,) + MACHINE[1:]), MachineError)
        self.assertIs(error("set 32 5\nset 1\n"), TextError)
        self.assertIs(error("set 32 5\nend\n"), FormError)


class Changed(unittest.TestCase):
    """What is read is written as it was: so no other text than that of the code is read as this code."""

    def check(self, text):
        try:
            code = read_code(MACHINE, text)
        except TensorError:
            return
        self.assertEqual(write_code(MACHINE, code), text)

    def test_one_character(self):
        for at in range(len(TEXT)):
            for sign in "0 1-9\nxa":
                self.check(TEXT[:at] + sign + TEXT[at + 1:])
                self.check(TEXT[:at] + sign + TEXT[at:])
            self.check(TEXT[:at] + TEXT[at + 1:])

    def test_one_word_or_line(self):
        chance = random.Random(1)
        lines = TEXT.split("\n")
        for at, line in enumerate(lines):
            self.check("\n".join(lines[:at] + lines[at + 1:]))
            self.check("\n".join(lines[:at] + [line, line] + lines[at + 1:]))
            words = line.split(" ")
            for k in range(len(words)):
                for new in ([], [words[k]] * 2, [chance.choice(TEXT.split())], ["-1"], [""]):
                    changed = " ".join(words[:k] + new + words[k + 1:])
                    self.check("\n".join(lines[:at] + [changed] + lines[at + 1:]))

    def test_loops_and_ends(self):
        self.assertEqual(read_code(MACHINE, "loop 0 0 1 2\nset 0 0\nend\n"), (LOOP, SET, END))
