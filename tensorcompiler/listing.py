"""The text of code: one line for each instruction."""

from tensorcompiler.errors import TextError
from tensorcompiler.instructions import INSTRUCTION_FIELDS, check_code
from tensorcompiler.kinds import POINTWISE
from tensorcompiler.machines import check_machine
from tensorcompiler.numerals import read_integer

_DIGITS_LIMIT = 90


def write_code(machine, code):
    """Return the text of valid code."""
    check_code(machine, code)
    return "".join([_line(instruction) + "\n" for instruction in code])


def read_code(machine, text):
    """Return the valid code that has the text, or raise an error."""
    check_machine(machine)
    if text != "" and not text.endswith("\n"):
        raise TextError("the last line has no line feed")
    lines = text.split("\n")
    code = tuple([_read_line(line) for line in lines[:-1]])
    check_code(machine, code)
    return code


def _line(instruction):
    words = [instruction[0]]
    for field, value in zip(INSTRUCTION_FIELDS[instruction[0]], instruction[1:]):
        if field == "sources" or field == "info":
            words.append(str(len(value)))
            words.extend([str(n) for n in value])
        else:
            words.append(str(value))
    return " ".join(words)


def _read_line(line):
    words = line.split(" ")
    name = words[0]
    if name not in INSTRUCTION_FIELDS:
        raise TextError("a line does not begin with the name of an instruction")
    instruction = [name]
    at = 1
    for field in INSTRUCTION_FIELDS[name]:
        if at >= len(words):
            raise TextError(f"a line of the instruction {name} has too few words")
        value, at = _read_field(field, words, at)
        instruction.append(value)
    if at < len(words):
        raise TextError(f"a line of the instruction {name} has too many words")
    return tuple(instruction)


def _read_field(field, words, at):
    """Return the value of the field whose words begin at an index, and the index behind them."""
    if field == "kind":
        if words[at] not in POINTWISE:
            raise TextError("a word is not a pointwise kind")
        return (words[at], at + 1)
    n = read_integer(words[at], _DIGITS_LIMIT)
    if field != "sources" and field != "info":
        return (n, at + 1)
    if n < 0 or n > len(words) - at - 1:
        raise TextError("there are not as many words as a line says")
    return (tuple([read_integer(word, _DIGITS_LIMIT) for word in words[at + 1:at + 1 + n]]), at + 1 + n)
