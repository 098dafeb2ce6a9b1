"""The text of code: a line for each instruction."""

from tensorworks.errors import TextError
from tensorworks.instructions import ITEMS, TUPLES, check_code
from tensorworks.kinds import POINTWISE
from tensorworks.machines import check_machine
from tensorworks.numerals import read_integer

DIGIT_LIMIT = 90


def field_words(field):
    """Return the words of a field."""
    if isinstance(field, tuple):
        return [str(len(field))] + [str(n) for n in field]
    return [str(field)]


def line_of(instruction):
    """Return the line of an instruction."""
    words = [instruction[0]]
    for field in instruction[1:]:
        words.extend(field_words(field))
    return " ".join(words) + "\n"


def write_code(machine, code):
    """Return the text of code."""
    check_code(machine, code)
    lines = {instruction: line_of(instruction) for instruction in {one: True for one in code}}
    return "".join([lines[instruction] for instruction in code])


def take_integer(words):
    """Take the last word off a list and return the integer that it stands for."""
    if not words:
        raise TextError("a word is missing")
    return read_integer(words.pop(), DIGIT_LIMIT)


def take_field(item, words):
    """Take the words of a field off the end of a list and return the field."""
    if item == "kind":
        if not words or words[-1] not in POINTWISE:
            raise TextError("no such kind")
        return words.pop()
    if item in TUPLES:
        many = take_integer(words)
        if not 0 <= many <= len(words):
            raise TextError("not as many items as told")
        return tuple([take_integer(words) for _ in range(many)])
    return take_integer(words)


def read_instruction(line):
    """Return the instruction that has the line."""
    words = line.split(" ")[::-1]
    name = words.pop()
    if name not in ITEMS:
        raise TextError("no such instruction")
    fields = [take_field(item, words) for item in ITEMS[name]]
    if words:
        raise TextError("too many words")
    return (name,) + tuple(fields)


def read_lines(text):
    """Return the instructions that have the text."""
    if text == "":
        return ()
    if not text.endswith("\n"):
        raise TextError("the last line does not end")
    lines = text[:-1].split("\n")
    # Long code repeats itself; each line is read once.
    known = {line: read_instruction(line) for line in {one: True for one in lines}}
    return tuple([known[line] for line in lines])


def read_code(machine, text):
    """Return the code that has the text."""
    check_machine(machine)
    code = read_lines(text)
    check_code(machine, code)
    return code
