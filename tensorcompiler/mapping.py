"""Maps of statements: the same ones with other affine forms or with other buffers in them."""

from tensorcompiler.affine import minus, with_replaced


class Mapping:
    """Maps all statements and expressions. The classes below this one say what becomes of forms and words."""

    def form(self, form):
        """Return what becomes of an affine form."""
        return form

    def word(self, buffer, form):
        """Return what becomes of the buffer and the form of a load, a pick or a put."""
        return (buffer, self.form(form))

    def copied(self, buffer, form):
        """Return what becomes of the buffer and the form of one side of a copy."""
        return (buffer, self.form(form))

    def body(self, statements):
        """Return what becomes of statements."""
        return tuple([self.statement(one) for one in statements])

    def statement(self, one):
        """Return what becomes of a statement."""
        name = one[0]
        if name == "loop":
            return one[:5] + (self.body(one[5]),)
        if name == "when":
            return (name, self.form(one[1]), self.body(one[2]))
        if name == "put":
            return (name,) + self.word(one[1], one[2]) + (self.expression(one[3]),)
        return (name,) + self.copied(one[1], one[2]) + self.copied(one[3], one[4]) + (one[5],)

    def expression(self, one):
        """Return what becomes of an expression."""
        name = one[0]
        if name == "index":
            return (name, self.form(one[1]))
        if name == "load":
            return (name,) + self.word(one[1], one[2])
        if name == "pick":
            return (name,) + self.word(one[1], one[2]) + one[3:5] + (self.expression(one[5]),)
        if name == "apply":
            return (name, one[1], tuple([self.expression(inner) for inner in one[2]]), one[3])
        if name == "guard":
            return (name, self.form(one[1]), self.expression(one[2]), self.expression(one[3]))
        return one


class Replacing(Mapping):
    """Puts a form in the place of a variable."""

    def __init__(self, variable, other):
        self._variable = variable
        self._other = other

    def form(self, form):
        """Return the form with the other one in the place of the variable."""
        return with_replaced(form, self._variable, self._other)


class Staging(Mapping):
    """Has the words of a buffer from a form on in another buffer; copies stay as they are."""

    def __init__(self, buffer, new, start):
        self._buffer = buffer
        self._new = new
        self._start = start

    def word(self, buffer, form):
        """Return the new buffer and the form less the start for the buffer, anything else as it is."""
        if buffer != self._buffer:
            return (buffer, form)
        return (self._new, minus(form, self._start))
