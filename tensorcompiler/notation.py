"""The text of a graph: one line for each node, and one for the outputs."""

from tensorcompiler.errors import TextError
from tensorcompiler.graphs import check_graph
from tensorcompiler.kinds import ARG_COUNTS, FIELDS
from tensorcompiler.numerals import read_integer

_DIGITS_LIMIT = 70


def write_graph(graph):
    """Return the text of a valid graph."""
    check_graph(graph)
    nodes, outs = graph
    lines = [_node_line(node) for node in nodes]
    lines.append(" ".join(["out"] + [str(out) for out in outs]))
    return "".join([line + "\n" for line in lines])


def read_graph(text):
    """Return the valid graph that has the text, or raise an error."""
    if not text.endswith("\n"):
        raise TextError("the last line has no line feed")
    lines = text.removesuffix("\n").split("\n")
    last = lines.pop().split(" ")
    nodes = tuple([_read_node(line) for line in lines])
    if last[0] != "out":
        raise TextError("the last line is not that of the outputs")
    graph = (nodes, _read_integers(last[1:]))
    check_graph(graph)
    return graph


def _node_line(node):
    kind, args, info = node
    words = [kind] + [str(arg) for arg in args]
    for name, field in zip(FIELDS[kind], info):
        words.extend(_field_words(name, field))
    return " ".join(words)


def _field_words(name, field):
    if name == "shape":
        return [_word_or_dot("".join([f"{letter}{size}" for letter, size in field]))]
    if name == "data":
        return [str(n) for n in field]
    if name == "letters":
        return [_word_or_dot(field)]
    return [str(field)]


def _word_or_dot(word):
    return "." if word == "" else word


def _read_node(line):
    words = line.split(" ")
    kind = words[0]
    if kind not in FIELDS:
        raise TextError("a line does not begin with a kind")
    names = FIELDS[kind]
    behind = 1 + ARG_COUNTS[kind]
    # The data of a const are one field in any number of words.
    if len(words) != behind + len(names) and (kind != "const" or len(words) < 2):
        raise TextError(f"a line of the kind {kind} has another number of words")
    args = _read_integers(words[1:behind])
    if kind == "const":
        return (kind, args, (_read_shape(words[1]), _read_integers(words[2:])))
    return (kind, args, tuple([_read_field(name, word) for name, word in zip(names, words[behind:])]))


def _read_integers(words):
    return tuple([read_integer(word, _DIGITS_LIMIT) for word in words])


def _read_field(name, word):
    if name == "shape":
        return _read_shape(word)
    if name == "letters":
        return _read_letters(word)
    if name in ("axis", "new", "second"):
        if len(word) != 1 or not _is_letter(word):
            raise TextError("a letter is not one from a to z")
        return word
    return read_integer(word, _DIGITS_LIMIT)


def _is_letter(sign):
    return "a" <= sign <= "z"


def _read_letters(word):
    if word == ".":
        return ""
    if word == "" or not all([_is_letter(sign) for sign in word]):
        raise TextError("a word of letters has another sign")
    return word


def _read_shape(word):
    if word == ".":
        return ()
    if word == "":
        raise TextError("a shape has no word")
    axes = []
    at = 0
    while at < len(word):
        end = _end_of_digits(word, at + 1)
        if not _is_letter(word[at]):
            raise TextError("an axis does not begin with a letter")
        axes.append((word[at], read_integer(word[at + 1:end], _DIGITS_LIMIT)))
        at = end
    return tuple(axes)


def _end_of_digits(word, start):
    end = start
    while end < len(word) and "0" <= word[end] <= "9":
        end = end + 1
    return end
