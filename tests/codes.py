"""Code of the accelerator for the tests: short names, drawn code, and a second device, straight from Part 8."""

from random import Random

from reference import pointwise_element

MACHINE = (32, 12, 16, 2, 3)
TOP = 2 ** 31

ZERO = (0,) * 16


def do(kind, slot, *sources, info=()):
    return ("do", kind, slot, sources, info)


def loop(slot, start, step, count, *body):
    return (("loop", slot, start, step, count),) + body + (("end",),)


def wait(queue=0):
    return ("wait", queue)


class PlainDevice:
    """A device that holds everything in plain attributes; `run` yields after each step, and ends or traps."""

    def __init__(self, machine, code, main, near, delays):
        self.width, _, _, queues, _ = machine
        self.code, self.main, self.near, self.delays = code, list(main), list(near), delays
        self.r = [0] * 32
        self.queues = {q: [] for q in range(queues)}
        self.issued = 0
        self.at = 0
        self.open = []
        self.trapped = False

    def fits(self, n):
        return -2 ** (self.width - 1) <= n < 2 ** (self.width - 1)

    def carry_out(self, queue):
        _, way, there, here = self.queues[queue].pop(0)
        pairs = list(zip(there, here))
        if way == "in":
            words = [self.main[x] for x in there]
            for (_, y), word in zip(pairs, words):
                self.near[y] = word
        else:
            words = [self.near[y] for y in here]
            for (x, _), word in zip(pairs, words):
                self.main[x] = word

    def execute(self, name, *f):
        """Do one instruction; an IndexError or an OverflowError is a trap."""
        r = self.r

        def inside(memory, address):
            if not 0 <= address < len(memory):
                raise IndexError
            return address

        def fitting(n):
            if not self.fits(n):
                raise OverflowError
            return n

        goal = self.at + 1
        if name == "set":
            r[f[0]] = f[1]
        elif name == "do":
            r[f[1]] = fitting(pointwise_element(f[0], [r[s] for s in f[2]], f[3]))
        elif name == "load":
            r[f[0]] = self.near[inside(self.near, r[f[1]] + f[2])]
        elif name == "store":
            self.near[inside(self.near, r[f[0]] + f[1])] = r[f[2]]
        elif name == "mac":
            d, a, s, b, t, count = f
            total = r[d]
            for k in range(count):
                total += self.near[inside(self.near, r[a] + s * k)] * self.near[inside(self.near, r[b] + t * k)]
            r[d] = fitting(total)
        elif name == "vector":
            kind, d, a, b, count = f
            places = [[inside(self.near, r[x] + k) for k in range(count)] for x in (d, a, b)]
            words = [fitting(pointwise_element(kind, [self.near[x], self.near[y]], ())) for x, y in zip(*places[1:])]
            for place, word in zip(places[0], words):
                self.near[place] = word
        elif name == "loop":
            self.open.append([self.at, 0])
            r[f[0]] = f[1]
        elif name == "end":
            begin, turn = self.open.pop()
            _, d, start, step, count = self.code[begin]
            if turn + 1 < count:
                self.open.append([begin, turn + 1])
                r[d] = start + (turn + 1) * step
                goal = begin + 1
        elif name == "skip":
            goal += f[1] if r[f[0]] < 0 else 0
        elif name == "wait":
            while self.queues[f[0]]:
                self.carry_out(f[0])
        else:
            q, a, n, b, m, count = f
            there = [inside(self.main, r[a] + n + k) for k in range(count)]
            here = [inside(self.near, r[b] + m + k) for k in range(count)]
            delay = self.delays[self.issued % len(self.delays)] if self.delays else 0
            self.queues[q].append([delay, name, there, here])
            self.issued += 1
        self.at = goal

    def run(self):
        yield
        while self.at < len(self.code):
            try:
                self.execute(*self.code[self.at])
            except (IndexError, OverflowError):
                self.trapped = True
                return
            for q in self.queues:
                if self.queues[q]:
                    if self.queues[q][0][0] == 0:
                        self.carry_out(q)
                    else:
                        self.queues[q][0][0] -= 1
            if self.at == len(self.code):
                for q in self.queues:
                    while self.queues[q]:
                        self.carry_out(q)
            yield


class CodeDrawer:
    """Draws valid code. Where `care` is near 1, addresses are mostly inside, and code mostly runs to its end."""

    def __init__(self, seed, machine=MACHINE, care=0.9):
        self.random = Random(seed)
        self.machine = machine
        self.care = care

    def number(self):
        random, top = self.random, 2 ** (self.machine[0] - 1)
        if random.random() < self.care:
            return random.randint(-9, 9)
        return random.choice((-top, top - 1, random.randint(-top, top - 1), 2 ** (self.machine[0] // 2)))

    def place(self, size, count=1):
        """An address, mostly one with room for count words."""
        random = self.random
        if random.random() < self.care or count > size:
            return random.randint(0, max(0, size - count))
        return random.choice((-1, size - count + 1, size - count, 0))

    def slot(self):
        return self.random.randint(3, 7)

    def simple(self):
        """A few instructions without a loop and a skip; slots 1 and 2 are for addresses."""
        random = self.random
        _, main, near, queues, lanes = self.machine
        name = random.choice(("set", "do", "do", "load", "load", "store", "mac", "vector", "in", "out", "wait", "wait"))
        shift = random.randint(-2, 2)
        if name == "set":
            return [("set", self.slot(), self.number())]
        if name == "do":
            kind = random.choice(("add", "sub", "mul", "max", "min", "less", "equal", "neg", "clamp", "shift", "where"))
            many = {"neg": 1, "clamp": 1, "shift": 1, "where": 3}.get(kind, 2)
            info = {"clamp": (random.randint(-9, 0), random.randint(0, 9)), "shift": (random.randint(1, 3),)}.get(kind, ())
            return [("do", kind, self.slot(), tuple(self.slot() for _ in range(many)), info)]
        if name == "load":
            return [("set", 1, shift), ("load", self.slot(), 1, self.place(near) - shift)]
        if name == "store":
            return [("set", 1, shift), ("store", 1, self.place(near) - shift, self.slot())]
        if name == "mac":
            count = random.randint(1, lanes)
            steps = [random.choice((-1, 0, 1, 1, 2)) for _ in range(2)]
            found = []
            for slot, step in zip((1, 2), steps):
                first = self.place(near, 1 + abs(step) * (count - 1))
                found.append(("set", slot, first if step >= 0 else first - step * (count - 1)))
            return found + [("mac", self.slot(), 1, steps[0], 2, steps[1], count)]
        if name == "vector":
            count = random.randint(1, lanes)
            kind = random.choice(("add", "sub", "mul", "max", "min", "less", "equal"))
            slots = random.choice(((1, 2, 2), (1, 1, 2), (2, 1, 1), (1, 2, 1)))
            return [("set", 1, self.place(near, count)), ("set", 2, self.place(near, count)),
                    ("vector", kind) + slots + (count,)]
        if name == "wait":
            return [("wait", random.randrange(queues))]
        count = random.randint(1, min(4, main, near))
        return [("set", 1, shift), (name, random.randrange(queues), 1, self.place(main, count) - shift, 0,
                                    self.place(near, count), count)]

    def block(self, many, depth):
        """That many pieces, some of them loops, and some of them skips over pieces of their own."""
        random = self.random
        found = []
        for _ in range(many):
            name = random.choice(("simple",) * 8 + (("loop", "skip") if depth else ()))
            if name == "simple":
                found += self.simple()
            elif name == "loop":
                count = random.randint(1, 3)
                found += [("loop", random.choice((self.slot(), self.slot(), 1)), self.number(), random.randint(-1, 1), count)]
                start, step = found[-1][2:4]
                top = 2 ** (self.machine[0] - 1)
                if not -top <= start + step * (count - 1) < top:
                    found[-1] = found[-1][:3] + (0, count)
                found += self.block(random.randint(0, 4), depth - 1) + [("end",)]
            else:
                inside = self.block(random.randint(0, 3), depth - 1)
                found += [("skip", self.slot(), len(inside))] + inside
        return found

    def code(self, many=10):
        return tuple(self.block(many, 2))


def drawn_memories(seed, machine=MACHINE):
    random = Random(seed)
    return tuple(tuple(random.randint(-9, 9) for _ in range(size)) for size in machine[1:3])


def drawn_delays(seed):
    random = Random(seed)
    most = random.choice((0, 3, 12, 200))
    return tuple(random.randint(0, most) for _ in range(random.randint(0, 5)))
