"""The lines of the journal of a trainer, with their check numbers."""

from tensorworks.errors import JournalError
from tensorworks.notation import DIGIT_LIMIT
from tensorworks.numerals import is_integer, is_natural

CHECK_PRIME = 65521
STEP_WORD = "step"
CHECK_WORD = "check"
MARK = ";"


def check_number(text):
    """Return the check number of a text."""
    return sum([position * ord(sign) for position, sign in enumerate(text, 1)]) % CHECK_PRIME


def weight_words(weights):
    """Return the words of weights."""
    words = []
    for row in weights:
        words.append(MARK)
        words.extend([str(n) for n in row])
    return words


def journal_line(steps, weights):
    """Return the line for the weights after so many steps."""
    head = " ".join([STEP_WORD, str(steps)] + weight_words(weights))
    return f"{head} {CHECK_WORD} {check_number(head)}\n"


def check_ending(line, words):
    """Raise the error of a line that does not end in its check number."""
    if len(words) < 4 or words[0] != STEP_WORD or words[-2] != CHECK_WORD:
        raise JournalError("not the words of a line")
    if words[-1] != str(check_number(" ".join(words[:-2]))):
        raise JournalError("the check number is not right")


def read_weights(words, sizes):
    """Return the weights that words stand for."""
    weights = []
    at = 0
    for size in sizes:
        numbers = words[at + 1:at + 1 + size]
        if words[at:at + 1] != [MARK] or len(numbers) != size:
            raise JournalError("not as many numbers as the parameters have")
        if not all([is_integer(word, DIGIT_LIMIT) for word in numbers]):
            raise JournalError("not a number")
        weights.append(tuple([int(word) for word in numbers]))
        at = at + 1 + size
    if at != len(words):
        raise JournalError("more words than the parameters have")
    return tuple(weights)


def read_line(line, sizes):
    """Return the number of steps and the weights that a line, without its line feed, tells."""
    words = line.split(" ")
    check_ending(line, words)
    if not is_natural(words[1], DIGIT_LIMIT):
        raise JournalError("not a number of steps")
    return (int(words[1]), read_weights(words[2:-2], sizes))
