"""Terms: what a word of memory holds, for all inputs at once."""

from tensorcompiler.errors import FormError, RangeError, TooWide
from tensorcompiler.term_forms import form_of_sum, made_form, parts_of, row_of, value_of

VALUE_LIMIT = 20000


def is_too_wide(n):
    """Return True if a number is less than -2^VALUE_LIMIT or greater than 2^VALUE_LIMIT."""
    # Nearly all numbers are short, and this asks for no more than that.
    return n.bit_length() > VALUE_LIMIT and abs(n) != 1 << VALUE_LIMIT


class Terms:
    """A table of terms. Each has an id, and those with the same normal form have the same id."""

    def __init__(self):
        self._forms = []
        self._spans = []
        self._places = {}
        self._made = {}
        self._variables = {}

    def __len__(self):
        return len(self._forms)

    def number(self, n):
        """Return the id of a number."""
        return self._place(("number", n), n, n)

    def variable(self, key, low, high):
        """Return the id of the variable with this key and this interval."""
        if low > high:
            raise RangeError("the interval of a variable is empty")
        if self._variables.setdefault(key, (low, high)) != (low, high):
            raise FormError("there is a variable with this key and another interval")
        if low == high:
            return self.number(low)
        return self._place(("variable", key), low, high)

    def make(self, kind, ids, info):
        """Return the id of the term that a pointwise kind makes of terms."""
        wanted = (kind, ids, info)
        if wanted not in self._made:
            form, low, high = made_form(self, kind, ids, info)
            if is_too_wide(low) or is_too_wide(high):
                raise TooWide("the interval of a term reaches beyond the widest one")
            self._made[wanted] = self.number(low) if low == high else self._place(form, low, high)
        return self._made[wanted]

    def pick(self, ids, index):
        """Return the id of the term that is the one of ids at the value of the term index."""
        low, high = self.span(index)
        if low < 0 or high >= len(ids):
            raise FormError("the index of a pick reaches beyond its list")
        if low == high:
            return ids[low]
        first, by, many, counted = self.row(index)
        choices = tuple([ids[first + by * turn] for turn in range(many)])
        if all([choice == choices[0] for choice in choices]):
            return choices[0]
        spans = [self.span(choice) for choice in choices]
        least = min([span[0] for span in spans])
        return self._place(("pick", choices + (counted,), ()), least, max([span[1] for span in spans]))

    def row(self, index):
        """Return a term that is no number as c + g V: c + g s, g, how many numbers V can be, and the id of V - s.

        Here s is the least number that V can be.
        """
        number, by, pairs, (least, most) = row_of(self, index)
        counted = self._place(form_of_sum(self, -least, pairs), 0, most - least)
        return (number + by * least, by, most - least + 1, counted)

    def span(self, id_of_term):
        """Return the interval of a term."""
        return self._spans[id_of_term]

    def value(self, id_of_term, values):
        """Return the value of a term if the variables have these values, a dict by their keys."""
        found = {}
        for term in self._needed(id_of_term):
            found[term] = value_of(self._forms[term], found, values)
        return found[id_of_term]

    def form(self, id_of_term):
        """Return the normal form of a term."""
        return self._forms[id_of_term]

    def _place(self, form, low, high):
        """Return the id of a normal form with its interval, a new one if it is not in the table."""
        found = self._places.get(form)
        if found is None:
            found = len(self._forms)
            self._places[form] = found
            self._forms.append(form)
            self._spans.append((low, high))
        return found

    def _needed(self, id_of_term):
        """Return the ids of a term and of all that it is made of, each behind those that it is made of."""
        needed = {id_of_term: True}
        going = [id_of_term]
        while len(going) > 0:
            parts = parts_of(self._forms[going.pop()])
            for part in parts:
                if part not in needed:
                    needed[part] = True
                    going.append(part)
        # A term gets its id behind all that it is made of.
        return sorted(needed)
