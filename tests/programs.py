"""Loop programs for the tests: short names for their parts, drawn programs, and a second way to run them."""

from random import Random

from reference import limit, pointwise_element


def form(base, *terms):
    return (base, terms)


def loop(variable, count, *body, start=0, step=1):
    return ("loop", variable, start, step, count, body)


def when(condition, *body):
    return ("when", condition, body)


def put(buffer, place, expr):
    return ("put", buffer, place if isinstance(place, tuple) else form(place), expr)


def copy(to, to_form, source, source_form, count):
    one, other = (place if isinstance(place, tuple) else form(place) for place in (to_form, source_form))
    return ("copy", to, one, source, other, count)


def number(n):
    return ("number", n)


def load(buffer, place):
    return ("load", buffer, place if isinstance(place, tuple) else form(place))


def pick(buffer, place, stride, count, expr):
    return ("pick", buffer, place if isinstance(place, tuple) else form(place), stride, count, expr)


def apply(kind, *exprs, info=()):
    return ("apply", kind, exprs, info)


def guard(condition, expr, other):
    return ("guard", condition if isinstance(condition, tuple) else form(condition), expr, other)


# Roles and sizes of the buffers of all drawn programs.
BUFFERS = (("in", 5), ("main", 6), ("near", 4), ("in", 3), ("near", 7), ("main", 2))


class Drawer:
    """Draws a valid program; with `safe` it has no errors when it runs, either."""

    def __init__(self, seed, safe):
        self.random = Random(seed)
        self.safe = safe

    def form(self, loops, low, high):
        """A form whose values lie from low to high, if the drawer is safe."""
        random = self.random
        terms, least, most = [], 0, 0
        for variable, (start, step, count) in sorted(loops.items()):
            if random.random() < 0.5:
                factor = random.choice((-2, -1, 1, 1, 2, 3))
                ends = (factor * start, factor * (start + step * (count - 1)))
                if most + max(ends) - least - min(ends) <= high - low or not self.safe:
                    terms.append((variable, factor))
                    least, most = least + min(ends), most + max(ends)
        if not self.safe:
            return (random.randint(low - 1, high), tuple(terms))
        return (random.randint(low - least, high - most), tuple(terms))

    def expr(self, loops, level):
        random = self.random
        name = random.choice(("number", "index", "load", "load") if level == 1 else ("load", "pick", "apply", "apply", "guard"))
        if name == "number":
            return number(random.randint(-9, 9))
        if name == "index":
            return ("index", self.form(loops, -9, 9))
        buffer = random.randrange(len(BUFFERS))
        if name == "load":
            return load(buffer, self.form(loops, 0, BUFFERS[buffer][1] - 1))
        if name == "guard":
            return guard(self.form(loops, -2, 2), self.expr(loops, level - 1), self.expr(loops, level - 1))
        if name == "pick":
            count = random.randint(1, BUFFERS[buffer][1])
            stride = random.choice((-1, 0, 1))
            reach = (count - 1) * stride
            place = self.form(loops, max(0, -reach), BUFFERS[buffer][1] - 1 - max(0, reach))
            return pick(buffer, place, stride, count, self.expr(loops, level - 1))
        kind = random.choice(("add", "sub", "max", "min", "less", "equal", "neg", "clamp", "shift", "where", "mul"))
        inner = [self.expr(loops, level - 1) for _ in range({"neg": 1, "clamp": 1, "shift": 1, "where": 3}.get(kind, 2))]
        info = {"clamp": (random.randint(-9, 0), random.randint(0, 9)), "shift": (random.randint(1, 3),)}.get(kind, ())
        if kind == "mul":
            # Numbers stay small when words are multiplied again and again.
            return apply("clamp", apply(kind, *inner), info=(-50, 50))
        return apply(kind, *inner, info=info)

    def statement(self, loops, depth):
        random = self.random
        name = random.choice(("put", "put", "copy", "loop", "loop", "when") if depth else ("put", "put", "copy"))
        if name == "loop":
            variable = random.choice([k for k in range(6) if k not in loops])
            turns = (random.randint(-2, 2), random.choice((-2, -1, 1, 2)), random.randint(1, 3))
            inside = {**loops, variable: turns}
            return ("loop", variable) + turns + (self.body(inside, depth - 1),)
        if name == "when":
            return ("when", self.form(loops, -2, 2), self.body(loops, depth - 1))
        if name == "put":
            buffer = random.choice((1, 2, 4, 5))
            return put(buffer, self.form(loops, 0, BUFFERS[buffer][1] - 1), self.expr(loops, random.randint(1, 4)))
        near = random.choice((2, 4))
        to, source = random.choice(((near, random.choice((0, 1, 3, 5))), (random.choice((1, 5)), near)))
        count = random.randint(1, min(BUFFERS[to][1], BUFFERS[source][1]))
        return copy(
            to, self.form(loops, 0, BUFFERS[to][1] - count), source, self.form(loops, 0, BUFFERS[source][1] - count), count)

    def body(self, loops, depth):
        return tuple(self.statement(loops, depth) for _ in range(self.random.randint(1, 3)))


def drawn_program(seed, safe=True):
    drawer = Drawer(seed, safe)
    first = [loop(0, BUFFERS[k][1], put(k, form(0, (0, 1)), ("index", form(k, (0, 1))))) for k in (1, 2, 4)]
    if safe or seed % 3:
        first.append(loop(0, 2, put(5, form(0, (0, 1)), number(seed % 5))))
    return (BUFFERS, tuple(first) + drawer.body({}, 3) + drawer.body({}, 2))


def drawn_words(seed, low=-9, high=9):
    random = Random(seed)
    return tuple(tuple(random.randint(low, high) for _ in range(size)) for role, size in BUFFERS if role == "in")


class Wrong(Exception):
    """What a program does that it should not do: its text is the name of the error."""


class Plain:
    """Runs a program straight from point 604, on numbers."""

    def __init__(self, program, given):
        self.buffers, self.body = program
        given = list(given)
        self.memory = [list(given.pop(0)) if role == "in" else [None] * size for role, size in self.buffers]

    def value(self, place, at):
        return place[0] + sum(at[variable] * factor for variable, factor in place[1])

    def word(self, buffer, place):
        if not 0 <= place < self.buffers[buffer][1]:
            raise Wrong("RangeError")
        if self.memory[buffer][place] is None:
            raise Wrong("UnsetWord")
        return self.memory[buffer][place]

    def expr(self, expr, at):
        name, *rest = expr
        if name == "number":
            return rest[0]
        if name == "index":
            return self.value(rest[0], at)
        if name == "load":
            return self.word(rest[0], self.value(rest[1], at))
        if name == "guard":
            return self.expr(rest[1] if self.value(rest[0], at) >= 0 else rest[2], at)
        if name == "pick":
            v = self.expr(rest[4], at)
            return self.word(rest[0], self.value(rest[1], at) + rest[2] * limit(v, 0, rest[3] - 1))
        n = pointwise_element(rest[0], [self.expr(one, at) for one in rest[1]], rest[2])
        if not -2 ** 20000 <= n <= 2 ** 20000:
            raise Wrong("TooWide")
        return n

    def statements(self, body, at):
        for name, *rest in body:
            if name == "loop":
                for k in range(rest[3]):
                    self.statements(rest[4], {**at, rest[0]: rest[1] + k * rest[2]})
            elif name == "when":
                self.statements(rest[1] if self.value(rest[0], at) >= 0 else (), at)
            elif name == "put":
                n = self.expr(rest[2], at)
                place = self.value(rest[1], at)
                if not 0 <= place < self.buffers[rest[0]][1]:
                    raise Wrong("RangeError")
                self.memory[rest[0]][place] = n
            else:
                to, to_form, source, source_form, count = rest
                places = [self.value(to_form, at) + k for k in range(count)]
                starts = [self.value(source_form, at) + k for k in range(count)]
                for buffer, row in ((to, places), (source, starts)):
                    if row[0] < 0 or row[-1] >= self.buffers[buffer][1]:
                        raise Wrong("RangeError")
                words = [self.word(source, start) for start in starts]
                for place, n in zip(places, words):
                    self.memory[to][place] = n

    def run(self):
        self.statements(self.body, {})
        return tuple(tuple(words) for words in self.memory)
