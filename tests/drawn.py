"""Programs that are drawn by a written number."""

import random

from tests.build import SKIP, call, local, op, seq

PARAMETERS = {"Wait": 1, "IsDet": 2, "NewCell": 2, "Exchange": 3, "NewPort": 2, "Send": 2, "Label": 2, "Width": 2,
              "Part": 3}
DECLARATIVE = ["Wait", "Label", "Width", "Part"]
SIMPLE = ["int", "int", "atom", "tuple", "tuple", "tuple", "bind", "bind", "op", "op", "call", "call", "skip"]
NESTED = ["if", "case", "case", "thread", "thread", "thread", "need", "local", "proc"]
OTHER = ["try", "try", "raise", "choose"]


class Drawing:

    def __init__(self, chance, declarative=False, choices=True, needs=True, tame=False):
        """A tame program makes few things that raise something."""
        self.chance = chance
        self.tame = tame
        self.built_in = DECLARATIVE if declarative else list(PARAMETERS)
        self.simple = SIMPLE if not tame else [word for word in SIMPLE if word != "bind"]
        self.nested = [word for word in NESTED + OTHER if not (declarative and word in ("try", "choose"))
                       and (choices or word != "choose") and (needs or word != "need")
                       and not (tame and word == "raise")]
        self.fresh = 0

    def name(self):
        self.fresh += 1
        return self.chance.choice(["A", "B", "C", f"V{self.fresh}", f"V{self.fresh}"])

    def some(self, known, many):
        return tuple(self.chance.choice(known) for _ in range(many))

    def statement(self, known, size):
        """A statement of about this size, which uses what is known (and built-in procedures)."""
        if size <= 1:
            return self.one(known)
        if self.chance.randrange(3) == 0:
            return self.with_value(known, size)
        if self.chance.randrange(5) < 3:
            left = self.chance.randint(1, size - 1)
            return ("seq", self.statement(known, left), self.statement(known, size - left))
        return self.around(known, size)

    def with_value(self, known, size):
        """A new variable that gets a value at once, or a part of a tuple that gets one, and then something with it."""
        x = self.name()
        known = known + [x] * 3
        rest = self.statement(known, size - 1)
        y, z = self.some(known, 2)
        kind = self.chance.randrange(8)
        if kind == 0:
            return ("local", x, seq(("tuple", x, "f", (y, z)), rest))
        if kind == 1:
            return ("local", x, seq(op(self.chance.choice(["+", "-", "*", "<", "=="]), x, y, z), rest))
        if kind == 2:
            return ("local", x, ("local", "D", seq(("tuple", "D", "f", (x, y)), ("bind", z, "D"), rest)))
        if kind == 3:
            name = self.chance.choice([name for name in self.built_in if name != "Wait"])
            return ("local", x, seq(call(name, *self.some(known, PARAMETERS[name] - 1), x), rest))
        if kind == 4:
            return ("local", x, ("seq", ("thread", self.one(known)), rest))
        return ("local", x, seq(self.one_for(x, known), rest))

    def one_for(self, x, known):
        word = self.chance.choice(["int", "int", "atom", "tuple"])
        if word == "int":
            return ("int", x, self.chance.choice([0, 1, 1, 2, 3, -1, 10 ** 9]))
        if word == "atom":
            return ("atom", x, self.chance.choice(["true", "true", "false", "a"]))
        return ("tuple", x, self.chance.choice("ffg"), self.some(known, self.chance.choice([1, 2, 2])))

    def one(self, known):
        word = self.chance.choice(self.simple)
        x, y, z = self.some(known, 3)
        if word in ("int", "atom", "tuple"):
            return self.one_for(x, known)
        if word == "bind":
            return ("bind", x, y)
        if word == "op":
            return op(self.chance.choice(["+", "-", "*", "<", "==", "=="]), x, y, z)
        if word == "call":
            if self.chance.randrange(6) == 0 and not self.tame:
                return call(x, *self.some(known, self.chance.randrange(3)))
            name = self.chance.choice(self.built_in)
            many = PARAMETERS[name] + (self.chance.randrange(15) == 0)
            return call(name, *self.some(known + [name] * (self.chance.randrange(9) == 0), many))
        return SKIP

    def around(self, known, size):
        word = self.chance.choice(self.nested)
        x = self.chance.choice(known)
        half = size // 2
        if word == "if":
            return ("if", x, self.statement(known, half), self.statement(known, half))
        if word == "case":
            ys = tuple(f"W{self.fresh}{k}" for k in range(self.chance.choice([1, 2, 2])))
            pattern = self.chance.choice([("int", 1), ("atom", "a")] + [("tuple", "f", ys)] * 4)
            inner = known + list(ys) if pattern[0] == "tuple" else known
            return ("case", x, pattern, self.statement(inner, half), self.statement(known, half))
        if word in ("thread", "need"):
            return ("thread", self.statement(known, size - 1)) if word == "thread" else (
                "need", x, self.statement(known, size - 1))
        if word == "local":
            y = self.name()
            return ("local", y, self.statement(known + [y] * 2, size - 1))
        if word == "proc":
            return self.procedure(known, size)
        if word == "try":
            y = self.name()
            return ("try", self.statement(known, half), y, self.statement(known + [y], half))
        if word == "raise":
            return ("raise", x)
        return ("choose", self.statement(known, half), self.statement(known, half))

    def procedure(self, known, size):
        """A procedure, mostly a new one, and calls of it."""
        p = self.name() if self.chance.randrange(5) else self.chance.choice(known)
        ys = tuple(f"Y{self.fresh}{k}" for k in range(self.chance.randrange(3)))
        body = self.statement(known + [p] + list(ys), size // 2)
        if self.chance.randrange(4) == 0:
            body = seq(body, call(p, *self.some(known, len(ys))))
        made = seq(("proc", p, ys, body), call(p, *self.some(known, len(ys))),
                   call(p, *self.some(known, len(ys) + (self.chance.randrange(9) == 0))))
        return made if p in known else local(p, made)


def program(seed, size, **options):
    """A program with the given variables X, Y and Z, with up to four threads from the beginning on."""
    chance = random.Random(seed)
    drawing = Drawing(chance, **options)
    many = chance.randint(1, 4)
    parts = [drawing.statement(["X", "Y", "Z", "Q"], max(1, size // many)) for _ in range(many)]
    return (("X", "Y", "Z"), local("Q", *[("thread", part) for part in parts[1:]], parts[0]))
