"""Integers in decimal digits, as all texts of the program have them."""

from tensorcompiler.errors import TextError


def read_integer(text, most):
    """Return the integer that has the text, in at most that many digits, or raise TextError."""
    digits = text.removeprefix("-")
    # isdigit alone holds for digits of other scripts too.
    if not (digits.isascii() and digits.isdigit()) or len(digits) > most:
        raise TextError("not an integer of so few digits")
    if digits.startswith("0") and text != "0":
        raise TextError("an integer begins with a zero, or nought has a sign")
    return int(text)


def write_integer(n):
    """Return the text of an integer of any size."""
    # Python itself refuses to write numbers of some thousands of digits, so long ones are written in parts.
    above = 10 ** 60
    rest = abs(n)
    parts = []
    while rest >= above:
        rest, low = divmod(rest, above)
        parts.append(str(low).zfill(60))
    parts.append(str(rest))
    text = "".join(parts[::-1])
    return "-" + text if n < 0 else text
