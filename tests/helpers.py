"""What several tests share: texts of components, and components made by chance from a fixed seed."""

import random

from blameless.errors import BadText
from blameless.interface import Interface
from blameless.language import Component, read_component
from blameless.machine import Code
from blameless.process import Process
from blameless.words import OPERATORS


def with_body(body, *, room=20000, locals_=4, buffers=(), more=()):
    """Return the text of a component whose procedure 0 has this body; `more` are the texts of further procedures."""
    words = [f"room {room} procedures {1 + len(more)}"]
    words.extend([" ".join(["buffer", str(len(buffer))] + [str(word) for word in buffer]) for buffer in buffers])
    words.append(" ".join([f"procedure {locals_}"] + ([body] if body else []) + ["end"]))
    words.extend(more)
    return " ".join(words)


def fault_of(text, imports):
    """Return the index with which BadText is raised, or None if the text can be read."""
    try:
        read_component(text, imports)
    except BadText as error:
        return error.at
    return None


def alone(body, **more):
    """Return the run of one component without imports whose procedure 0 has this body."""
    return Process(Interface([(1, [])]), [read_component(with_body(body, **more), 0)])


def process_of(rows, texts):
    """Return the run of these texts, one for each row of the interface."""
    components = [read_component(text, len(row[1])) for row, text in zip(rows, texts, strict=True)]
    return Process(Interface(rows), components)


class Chance:
    """Makes components by chance, always the same ones for the same seed."""

    def __init__(self, seed):
        self.random = random.Random(seed)

    def component(self, imports):
        buffers = [self.words(self.random.choice([1, 2, 9])) for _ in range(self.random.choice([0, 1, 3, 8]))]
        count = self.random.randint(1, 8)
        procedures = []
        for _ in range(count):
            bounds = (self.random.choice([1, 2, 16]), len(buffers), count, imports)
            procedures.append((bounds[0], self.block(6, bounds)))
        return Component(self.random.randint(0, 20000), buffers, procedures)

    def words(self, count):
        return [self.random.choice([0, 1, 9, 10, 65535, self.random.randrange(65536)]) for _ in range(count)]

    def block(self, depth, bounds):
        return tuple([self.statement(depth, bounds) for _ in range(self.random.choice([0, 1, 1, 2]))])

    def statement(self, depth, bounds):
        local_count, buffer_count, procedure_count, imports = bounds
        kinds = ["set", "call", "return"] + ["put"] * (buffer_count > 0) + ["use"] * (imports > 0)
        kind = self.random.choice(kinds + ["if", "if", "while"] * (depth > 0))
        local = self.random.randrange(local_count)
        if kind == "set":
            return kind, local, self.expression(4, bounds)
        if kind == "put":
            return kind, self.random.randrange(buffer_count), self.expression(4, bounds), self.expression(4, bounds)
        if kind == "call":
            return kind, local, self.random.randrange(procedure_count), self.expression(4, bounds)
        if kind == "use":
            return kind, local, self.random.randrange(imports), self.expression(4, bounds)
        if kind == "if":
            test = self.expression(4, bounds)
            return kind, test, self.block(depth - 1, bounds), self.block(depth - 1, bounds)
        if kind == "while":
            return kind, self.expression(4, bounds), self.block(depth - 1, bounds)
        return kind, self.expression(4, bounds)

    def expression(self, depth, bounds):
        local_count, buffer_count = bounds[:2]
        kinds = ["number", "local"] + (list(OPERATORS) + ["get"] * (3 * (buffer_count > 0))) * (depth > 1)
        kind = self.random.choice(kinds)
        if kind == "number":
            return kind, self.words(1)[0]
        if kind == "local":
            return kind, self.random.randrange(local_count)
        if kind == "get":
            return kind, self.random.randrange(buffer_count), self.expression(depth - 1, bounds)
        return kind, self.expression(depth - 1, bounds), self.expression(depth - 1, bounds)

    def interface(self):
        size = self.random.choice([1, 2, 2, 3, 4, 8])
        exports = [self.random.randint(1, 3) for _ in range(size)]
        rows = []
        for component in range(size):
            pairs = [(other, number) for other in range(size) for number in range(exports[other]) if other != component]
            rows.append((exports[component], self.random.sample(pairs, min(len(pairs), self.random.randint(1, 4)))))
        return Interface(rows)

    def trace(self, interface, most):
        """Return a trace that can come, with at most so many events."""
        trace = []
        # Those that wait, and behind them the one that is current.
        busy = [0]
        returns = self.random.choice([0.1, 0.5, 0.5, 0.9])
        while len(trace) < most:
            word = self.words(1)[0]
            imports = interface.imports[busy[-1]]
            if imports and self.random.random() >= returns:
                trace.append(("call", busy[-1], *self.random.choice(imports), word))
                busy.append(trace[-1][2])
            elif len(busy) > 1:
                trace.append(("return", busy.pop(), busy[-1], word))
            elif not imports or self.random.random() < 0.1:
                return trace + [("end", word)]
        return trace

    def codes(self, interface):
        return [self.code(exports, len(pairs)) for exports, pairs in zip(interface.exports, interface.imports)]

    def code(self, exports, imports):
        count = self.random.randint(4, 12)
        memory = []
        for _ in range(count):
            number = self.random.choice([1, 1, 10, 11, 12, 13, 14, 16, 16, self.random.randint(0, 17)] + [15] * 6)
            # Small words are registers, and addresses of instructions, too.
            words = [self.random.choice([0, 0, 1, 2, 4, 8, 12, 16]) for _ in range(3)]
            if number == 15 and self.random.random() < 0.95:
                words[1] = self.random.randrange(max(imports, 1))
            memory.extend([number] + words)
        return Code(memory, [4 * self.random.randrange(count // 2) for _ in range(exports)])


class Lively(Chance):
    """Makes components that make many events: they use and call much, and seldom do anything undefined.

    One of `cares` is drawn for each component: how often an index is made to fit.
    """

    def __init__(self, seed, cares=(1, 1, 0.9)):
        super().__init__(seed)
        self.cares = cares

    def program(self):
        """Return an interface and a component for each one of it."""
        interface = self.interface()
        return interface, [self.part(interface, number) for number in range(interface.size())]

    def part(self, interface, number):
        imports = len(interface.imports[number])
        sizes = [self.random.choice([1, 2, 9]) for _ in range(self.random.choice([0, 1, 2]))]
        self.care = self.random.choice(self.cares)
        count = interface.exports[number] + self.random.randint(0, 2)
        procedures = []
        for _ in range(count):
            bounds = (self.random.choice([1, 2, 5]), len(sizes), count, imports)
            procedures.append((bounds[0], self.fitting_block(self.block(self.random.choice([1, 2, 6]), bounds), sizes)))
        room = self.random.choice([3, 7, 20, 60, 300])
        return Component(room, [self.words(size) for size in sizes], procedures)

    def block(self, depth, bounds):
        return tuple([self.statement(depth, bounds) for _ in range(self.random.choice([0, 1, 2, 3, 4]))])

    def statement(self, depth, bounds):
        local = self.random.randrange(bounds[0])
        kind = self.random.choice(["any", "any", "set", "call", "use", "use"])
        if kind == "use" and bounds[3] > 0:
            return kind, local, self.random.randrange(bounds[3]), self.expression(3, bounds)
        if kind == "call":
            return kind, local, self.random.randrange(bounds[2]), self.expression(3, bounds)
        if kind == "set":
            return kind, local, self.expression(4, bounds)
        drawn = super().statement(depth, bounds)
        # A return in the middle leaves out what stands behind it.
        if drawn[0] == "return" and self.random.random() < 0.7:
            return "set", local, drawn[1]
        return drawn

    def fitting_block(self, block, sizes):
        return tuple([self.fitting(statement, sizes) for statement in block])

    def fitting(self, part, sizes):
        """Return a statement or an expression with indexes that fit, where care is taken."""
        if part[0] in ("number", "local"):
            return part
        parts = []
        for place, inner in enumerate(part):
            if isinstance(inner, tuple):
                is_block = inner == () or isinstance(inner[0], tuple)
                inner = self.fitting_block(inner, sizes) if is_block else self.fitting(inner, sizes)
                if part[0] in ("get", "put") and place == 2 and self.random.random() < self.care:
                    inner = ("mod", inner, ("number", sizes[part[1]]))
            parts.append(inner)
        return tuple(parts)
