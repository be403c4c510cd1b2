"""The execution of loop programs, on words of any kind."""

from tensorcompiler.errors import FeedError, RangeError, UnsetWord


class Execution:
    """An execution of a valid program. A class below this one says what the words are.

    It has the methods number(n), apply(kind, words, info) and pick(expr), all of which return a word.
    """

    def __init__(self, program, given):
        buffers, self._body = program
        _check_given(buffers, given)
        feeds = list(given)
        self._words = [list(feeds.pop(0)) if role == "in" else [None] * size for role, size in buffers]
        self._counts = {}

    def finish(self):
        """Execute the program and return the tuple of the words of each buffer."""
        self._run(self._body)
        return tuple([tuple(words) for words in self._words])

    def evaluate(self, expr):
        """Return the word that is the value of an expression."""
        name = expr[0]
        if name == "load":
            return self.read(expr[1], self.position(expr[2]))
        if name == "apply":
            return self.apply(expr[1], tuple([self.evaluate(inner) for inner in expr[2]]), expr[3])
        if name == "number":
            return self.number(expr[1])
        if name == "index":
            return self.number(self.position(expr[1]))
        if name == "guard":
            return self.evaluate(expr[2] if self.position(expr[1]) >= 0 else expr[3])
        return self.pick(expr)

    def position(self, form):
        """Return the value of an affine form."""
        total = form[0]
        for variable, factor in form[1]:
            total = total + factor * self._counts[variable]
        return total

    def read(self, buffer, place):
        """Return the word of a buffer at a place."""
        words = self._words[buffer]
        if place < 0 or place >= len(words):
            raise RangeError("a word that is read is outside of its buffer")
        if words[place] is None:
            raise UnsetWord("a word is read that is not set")
        return words[place]

    def _run(self, body):
        for statement in body:
            name = statement[0]
            if name == "put":
                self._put(statement)
            elif name == "loop":
                self._loop(statement)
            elif name == "when":
                if self.position(statement[1]) >= 0:
                    self._run(statement[2])
            else:
                self._copy(statement)

    def _loop(self, statement):
        _, variable, start, step, count, body = statement
        for turn in range(count):
            self._counts[variable] = start + step * turn
            self._run(body)

    def _put(self, statement):
        _, buffer, form, expr = statement
        word = self.evaluate(expr)
        place = self.position(form)
        words = self._words[buffer]
        if place < 0 or place >= len(words):
            raise RangeError("a word that is set is outside of its buffer")
        words[place] = word

    def _copy(self, statement):
        _, to, to_form, source, source_form, count = statement
        place = self.position(to_form)
        start = self.position(source_form)
        for buffer, first in ((to, place), (source, start)):
            if first < 0 or first + count > len(self._words[buffer]):
                raise RangeError("a word that is copied is outside of its buffer")
        words = self._words[source][start:start + count]
        if None in words:
            raise UnsetWord("a word is copied that is not set")
        self._words[to][place:place + count] = words


def _check_given(buffers, given):
    sizes = [size for role, size in buffers if role == "in"]
    if [len(words) for words in given] != sizes:
        raise FeedError("the given words are not as many as the program has")
