"""How integers are written: decimal digits, without leading zeros, and - in front of a negative one."""

from tensorworks.errors import TextError


def is_natural(word, most):
    """Tell whether a word is a number without a sign, of at most so many digits."""
    # Digits of other scripts are digits for isdigit, too.
    if not (word.isascii() and word.isdigit()):
        return False
    return len(word) <= most and (word[0] != "0" or word == "0")


def is_integer(word, most):
    """Tell whether a word is an integer of at most so many digits."""
    if word.startswith("-"):
        return word != "-0" and is_natural(word[1:], most)
    return is_natural(word, most)


def read_integer(word, most):
    """Return the integer that a word of at most so many digits stands for."""
    if not is_integer(word, most):
        raise TextError("not an integer")
    return int(word)
