"""Integers in decimal digits, as all texts of the program have them."""

from tensorcompiler.errors import TextError


def read_integer(text, most):
    """Return the integer that has the text, in at most that many digits, or raise TextError."""
    digits = text.removeprefix("-")
    # isdigit alone holds for digits of other scripts too.
    if not (digits.isascii() and digits.isdigit()) or len(digits) > most:
        raise TextError("not an integer of so few digits")
    if digits.startswith("0") and text != "0":
        raise TextError("an integer begins with a zero, or nought has a sign")
    return int(text)
