"""The lines of a journal: the weights after a number of steps, with a check number."""

from tensorcompiler.errors import JournalError, TextError
from tensorcompiler.numerals import read_integer, write_integer

_MODULUS = 65521
_DIGITS_LIMIT = 70


def check_number(text):
    """Return the sum of position times code over the characters of a text, modulo a prime."""
    return sum([place * ord(sign) for place, sign in enumerate(text, start=1)]) % _MODULUS


def journal_line(steps, weights):
    """Return the line for the weights after that many steps, with its line feed."""
    words = ["step", write_integer(steps)]
    for row in weights:
        words.append(";")
        words.extend([write_integer(n) for n in row])
    text = " ".join(words)
    return f"{text} check {check_number(text)}\n"


def read_line(line, sizes):
    """Return the steps and the weights of a line without its line feed; the sizes are those of the parameters."""
    words = line.split(" ")
    if len(words) != 4 + len(sizes) + sum(sizes):
        raise JournalError("a line of the journal has another number of words")
    try:
        steps = read_integer(words[1], _DIGITS_LIMIT)
        weights = _read_weights(words, sizes)
    except TextError:
        raise JournalError("a word of the journal is not a number") from None
    # There is only one line for these weights, so all other words are asked at once.
    if steps < 0 or line + "\n" != journal_line(steps, weights):
        raise JournalError("a line of the journal is not whole")
    return (steps, weights)


def _read_weights(words, sizes):
    """Return the weights among the words of a line with the right number of words."""
    weights = []
    at = 2
    for size in sizes:
        weights.append(tuple([read_integer(word, _DIGITS_LIMIT) for word in words[at + 1:at + 1 + size]]))
        at = at + 1 + size
    return tuple(weights)
