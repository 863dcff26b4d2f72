"""Code that is drawn by a written number."""

import random

COUNTS = (1, 2, 2, 3, 2, 2, 2, 2, 3)
SIMPLE = ["new", "builtin", "copy", "bind", "int", "atom", "tuple", "tuple", "op", "op", "called", "called", "called",
          "proc", "proc", "thread", "thread", "need", "raise", "call"]
NESTED = ["if", "if", "caseint", "caseatom", "casetuple", "casetuple", "try", "try", "choose", "passed over"]


class CodeDrawing:

    def __init__(self, chance):
        self.chance = chance
        self.givens = [chance.randrange(4) for _ in range(chance.randint(2, 5))]

    def code(self, size):
        return tuple(self.unit(u, size) for u in range(len(self.givens)))

    def unit(self, u, size):
        self.rows = []
        self.many = self.givens[u] + 8
        has = list(range(self.givens[u]))
        for _ in range(3):
            has = self.write(has, ("new", has[-1] + 1 if has else 0))
        self.block(has, self.chance.randint(1, size))
        self.rows.append(("end",))
        return self.givens[u], self.many, tuple(self.rows)

    def write(self, has, row, *targets):
        """Puts an instruction, and returns the registers that have a node behind it."""
        self.rows.append(row)
        if row[0] in ("new", "builtin", "copy"):
            targets = (row[1],)
        return sorted({*has, *targets})

    def block(self, has, size):
        while size > 0:
            if size > 2 and self.chance.randrange(3) == 0:
                part = self.chance.randint(1, size - 1)
                has = self.nested(has, part)
                size -= part
            else:
                has = self.one(has)
                size -= 1
        return has

    def some(self, has, many):
        return tuple(self.chance.choice(has) for _ in range(many))

    def one(self, has):
        chance = self.chance
        word = chance.choice(SIMPLE)
        r, s, t = self.some(has, 3)
        other = chance.randrange(self.many)
        u = chance.randrange(len(self.givens))
        if word in ("new", "builtin", "copy"):
            return self.write(has, {"new": ("new", other), "builtin": ("builtin", other, chance.randrange(9)),
                                    "copy": ("copy", other, s)}[word])
        if word == "called":
            n = chance.randrange(9)
            has = self.write(has, ("builtin", other, n))
            return self.write(has, ("call", other, self.some(has, COUNTS[n] + (chance.randrange(9) == 0))))
        if word == "proc":
            return self.procedure(has, u, other)
        row = {
            "bind": ("bind", r, s), "int": ("int", r, chance.choice([0, 1, 1, 2, -1, 10 ** 9])),
            "atom": ("atom", r, chance.choice(["true", "false", "a"])),
            "tuple": ("tuple", r, chance.choice("fg"), self.some(has, chance.choice([1, 2, 2]))),
            "op": ("op", chance.choice(["+", "-", "*", "<", "==", "=="]), r, s, t),
            "thread": ("thread", u, self.some(has, self.givens[u])),
            "need": ("need", r, u, self.some(has, self.givens[u])),
            "raise": ("raise", r) if chance.randrange(3) == 0 else ("bind", r, r),
            "call": ("call", r, self.some(has, chance.randrange(3)))}[word]
        return self.write(has, row)

    def procedure(self, has, u, other):
        """A new procedure, and perhaps calls of it."""
        has = self.write(has, ("new", other))
        count = self.chance.randint(0, self.givens[u])
        has = self.write(has, ("proc", other, u, count, self.some(has, self.givens[u] - count)))
        for _ in range(self.chance.randrange(3)):
            has = self.write(has, ("call", other, self.some(has, count + (self.chance.randrange(12) == 0))))
        return has

    def nested(self, has, size):
        """Two ways, each with instructions of its own; behind both there is what is there behind each of them."""
        chance = self.chance
        word = chance.choice(NESTED)
        place = len(self.rows)
        r = chance.choice(has)
        rs = tuple(chance.sample(range(self.many), chance.choice([1, 2, 2])))
        self.rows.append(None)
        first = sorted({*has, *rs}) if word == "casetuple" else has
        if word == "passed over":
            # What nobody gets to may be anything that has the form.
            self.rows.extend([("copy", self.many - 1, self.many - 1)] * chance.randint(1, 2))
            self.rows[place] = ("jump", len(self.rows))
            return has
        behind = self.block(first, size // 2)
        if word == "try":
            self.rows.append(("untry",))
        leap = len(self.rows)
        self.rows.append(None)
        k = len(self.rows)
        other = self.block(sorted({*has, rs[0]}) if word == "try" else has, size - size // 2 - 1)
        self.rows[leap] = ("jump", len(self.rows))
        self.rows[place] = {
            "if": ("if", r, k), "caseint": ("caseint", r, chance.choice([0, 1]), k),
            "caseatom": ("caseatom", r, chance.choice(["a", "true"]), k),
            "casetuple": ("casetuple", r, chance.choice("ffg"), rs, k), "try": ("try", k, rs[0]),
            "choose": ("choose", k)}[word]
        return [r for r in behind if r in other]


def code(seed, size):
    return CodeDrawing(random.Random(seed)).code(size)
