"""Shapes: tuples of axes, each one a letter and a size."""

from tensorworks.errors import AxisError, RangeError, RankError, TooLarge

RANK_LIMIT = 4
SIZE_LIMIT = 16
COUNT_LIMIT = 256


def check_shape(shape):
    """Raise the error of a shape that is not valid."""
    if len(shape) > RANK_LIMIT:
        raise RankError("too many axes")
    letters = letters_of(shape)
    if len(set(letters)) != len(letters):
        raise AxisError("two axes have the same letter")
    for _, size in shape:
        if not 1 <= size <= SIZE_LIMIT:
            raise RangeError("a size is out of its range")
    if count_of(shape) > COUNT_LIMIT:
        raise TooLarge("too many elements")


def count_of(shape):
    """Return the product of the sizes."""
    count = 1
    for _, size in shape:
        count = count * size
    return count


def letters_of(shape):
    """Return the string of the letters."""
    return "".join([letter for letter, _ in shape])


def size_of(shape, letter):
    """Return the size of the axis with the letter, or None if there is none."""
    for name, size in shape:
        if name == letter:
            return size
    return None


def clash(first, second):
    """Tell whether an axis of both shapes has different sizes in them."""
    sizes = dict(first)
    return any([sizes.get(letter, size) != size for letter, size in second])


def union(first, second):
    """Return the axes of the first shape and behind them the new ones of the second, unchecked."""
    letters = letters_of(first)
    return first + tuple([axis for axis in second if axis[0] not in letters])


def broadcast(first, second):
    """Return the shape that two shapes have together."""
    if clash(first, second):
        raise AxisError("an axis has different sizes")
    shape = union(first, second)
    check_shape(shape)
    return shape


def offset(shape, at):
    """Return the position, in row-major order, of the element with these indexes."""
    position = 0
    for (_, size), index in zip(shape, at):
        position = position * size + index
    return position


def indexes(shape, position):
    """Return the indexes of the element at a position in row-major order."""
    at = []
    for _, size in reversed(shape):
        position, index = divmod(position, size)
        at.append(index)
    return tuple(at[::-1])
