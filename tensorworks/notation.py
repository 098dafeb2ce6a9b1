"""The text of a graph: a line for each node and one for the outputs."""

from tensorworks.errors import TextError
from tensorworks.graphs import check_graph
from tensorworks.kinds import ARITIES, FIELDS, KINDS
from tensorworks.numerals import is_natural, read_integer

DIGIT_LIMIT = 70
LETTERS = "abcdefghijklmnopqrstuvwxyz"
LETTER_FIELDS = ("axis", "new", "second")
EMPTY = "."


def shape_word(shape):
    """Return the word of a shape."""
    return "".join([f"{letter}{size}" for letter, size in shape]) or EMPTY


def field_words(name, field):
    """Return the words of a field."""
    if name == "shape":
        return [shape_word(field)]
    if name == "data":
        return [str(n) for n in field]
    if name == "letters":
        return [field or EMPTY]
    return [str(field)]


def node_line(node):
    """Return the line of a node."""
    kind, args, info = node
    words = [kind] + [str(arg) for arg in args]
    for name, field in zip(FIELDS[kind], info):
        words.extend(field_words(name, field))
    return " ".join(words) + "\n"


def write_graph(graph):
    """Return the text of a graph."""
    check_graph(graph)
    nodes, outs = graph
    last = " ".join(["out"] + [str(out) for out in outs]) + "\n"
    return "".join([node_line(node) for node in nodes]) + last


def read_shape(word):
    """Return the shape that has the word."""
    if word == EMPTY:
        return ()
    starts = [at for at, sign in enumerate(word) if sign in LETTERS]
    if not starts or starts[0] != 0:
        raise TextError("not a shape")
    axes = []
    for start, end in zip(starts, starts[1:] + [len(word)]):
        if not is_natural(word[start + 1:end], DIGIT_LIMIT):
            raise TextError("not a size")
        axes.append((word[start], int(word[start + 1:end])))
    return tuple(axes)


def read_letters(word):
    """Return the string of letters that has the word."""
    if word == EMPTY:
        return ""
    if not word or any([sign not in LETTERS for sign in word]):
        raise TextError("not letters")
    return word


def read_field(name, word):
    """Return the field, other than data, that has the word."""
    if name == "shape":
        return read_shape(word)
    if name == "letters":
        return read_letters(word)
    if name in LETTER_FIELDS:
        if len(word) != 1 or word not in LETTERS:
            raise TextError("not a letter")
        return word
    return read_integer(word, DIGIT_LIMIT)


def read_node(line):
    """Return the node that has the line."""
    kind, *words = line.split(" ")
    if kind not in KINDS:
        raise TextError("no such kind")
    if kind == "const":
        return read_const(words)
    arity = ARITIES[kind]
    names = FIELDS[kind]
    if len(words) != arity + len(names):
        raise TextError("wrong number of words")
    args = tuple([read_integer(word, DIGIT_LIMIT) for word in words[:arity]])
    return (kind, args, tuple([read_field(name, word) for name, word in zip(names, words[arity:])]))


def read_const(words):
    """Return the const that has the words behind its kind: a shape, and any number of data."""
    if not words:
        raise TextError("no shape")
    data = tuple([read_integer(word, DIGIT_LIMIT) for word in words[1:]])
    return ("const", (), (read_shape(words[0]), data))


def read_outs(line):
    """Return the outputs that have the line."""
    first, *words = line.split(" ")
    if first != "out":
        raise TextError("the last line is not that of the outputs")
    return tuple([read_integer(word, DIGIT_LIMIT) for word in words])


def read_graph(text):
    """Return the graph that has the text."""
    if not text.endswith("\n"):
        raise TextError("the last line does not end")
    *lines, last = text[:-1].split("\n")
    graph = (tuple([read_node(line) for line in lines]), read_outs(last))
    check_graph(graph)
    return graph
