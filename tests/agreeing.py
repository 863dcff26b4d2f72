"""Programs that are drawn by a written number and whose statements agree with each other.

At first it is drawn what each identifier is to stand for: a node of a table of trees, some of them infinite, some of
their parts variables that stay so. Then statements are drawn that hold there. So nothing is raised in any run.
"""

import random

from leatwork.errors import BadProgram
from leatwork.programs import check
from tests.build import SKIP, call, local, op, seq

ATOMS = ["a", "b", "true", "false"]


class Trees:
    """The table of trees."""

    def __init__(self, chance, many):
        self.chance = chance
        self.nodes = []
        for k in range(many):
            kind = chance.choice(["tuple", "tuple", "tuple", "tuple", "int", "int", "atom", "var"])
            if kind == "tuple":
                parts = tuple(chance.randrange(many) for _ in range(chance.choice([1, 2, 2, 3])))
                self.nodes.append(("tuple", chance.choice("fg"), parts))
            elif kind == "int":
                self.nodes.append(("int", chance.choice([0, 1, 1, 2, 3, 7])))
            elif kind == "atom":
                self.nodes.append(("atom", chance.choice(ATOMS)))
            else:
                self.nodes.append(("var", k))

    def put(self, node):
        if node in self.nodes:
            return self.nodes.index(node)
        self.nodes.append(node)
        return len(self.nodes) - 1


class Drawing:

    def __init__(self, chance, trees, needs=True):
        self.chance = chance
        self.trees = trees
        self.needs = needs
        self.fresh = 0

    def name(self):
        self.fresh += 1
        return f"V{self.fresh}"

    def of_kind(self, known, kind):
        """The known identifiers for nodes of a kind, in a drawn order."""
        found = [x for x, k in known.items() if self.trees.nodes[k][0] == kind]
        self.chance.shuffle(found)
        return found

    def statement(self, known, size):
        if size <= 1:
            return self.one(known)
        word = self.chance.choice(["seq", "seq", "seq", "local", "value", "value", "case", "case", "thread", "thread",
                                   "proc", "result", "result", "result", "need" if self.needs else "thread"])
        if word == "seq":
            left = self.chance.randint(1, size - 1)
            return ("seq", self.statement(known, left), self.statement(known, size - left))
        if word == "local":
            x, k = self.name(), self.chance.randrange(len(self.trees.nodes))
            return ("local", x, self.statement({**known, x: k}, size - 1))
        if word == "value":
            return self.with_parts(known, size)
        if word == "case":
            return self.case(known, size)
        if word == "thread":
            return ("thread", self.statement(known, size - 1))
        if word == "need":
            return ("need", self.chance.choice(list(known)), self.statement(known, size - 1))
        if word == "proc":
            return self.proc(known, size)
        return self.result(known, size)

    def one(self, known):
        x = self.chance.choice(list(known))
        same = [y for y in known if known[y] == known[x] and y != x]
        node = self.trees.nodes[known[x]]
        if same and self.chance.randrange(2):
            return ("bind", x, self.chance.choice(same))
        if node[0] in ("int", "atom"):
            return (node[0], x, node[1])
        if node[0] == "tuple":
            return self.tuple_for(x, known, SKIP)
        return self.chance.choice([SKIP, call("Wait", x)])

    def tuple_for(self, x, known, rest):
        """The tuple of an identifier, with new variables for some of its parts, and then the rest."""
        _, label, parts = self.trees.nodes[known[x]]
        new, ys = [], []
        for part in parts:
            there = [y for y in known if known[y] == part]
            if there and self.chance.randrange(3):
                ys.append(self.chance.choice(there))
            else:
                ys.append(self.name())
                new.append(ys[-1])
        made = ("tuple", x, label, tuple(ys))
        inner = {**known, **dict(zip(ys, parts))}
        rest = self.statement(inner, rest) if isinstance(rest, int) else rest
        return local(" ".join(new), made, rest) if rest != SKIP or new else made

    def with_parts(self, known, size):
        found = self.of_kind(known, "tuple")
        return self.tuple_for(found[0], known, size - 1) if found else self.one(known)

    def case(self, known, size):
        x = self.chance.choice(list(known))
        node = self.trees.nodes[known[x]]
        half = size // 2
        if node in (("atom", "true"), ("atom", "false")) and self.chance.randrange(2):
            return ("if", x, self.statement(known, half), self.statement(known, half))
        if node[0] != "tuple" or self.chance.randrange(4) == 0:
            pattern = self.chance.choice([("int", 1), ("atom", "a"), ("tuple", "h", (self.name(),)),
                                          node if node[0] in ("int", "atom") else ("int", 2)])
            inner = {**known, **{y: 0 for y in pattern[2]}} if pattern[0] == "tuple" else known
            return ("case", x, pattern, self.statement(inner, half), self.statement(known, half))
        ys = tuple(self.name() for _ in node[2])
        inner = {**known, **dict(zip(ys, node[2]))}
        return ("case", x, ("tuple", node[1], ys), self.statement(inner, size - 2), SKIP)

    def proc(self, known, size):
        """A procedure that is called once or twice, with what its parameters were drawn to stand for."""
        p = self.name()
        arguments = [self.chance.choice(list(known)) for _ in range(self.chance.randrange(3))]
        ys = tuple(self.name() for _ in arguments)
        body = self.statement({**known, **{y: known[x] for x, y in zip(arguments, ys)}}, size // 2)
        made = [("proc", p, ys, body), call(p, *arguments)]
        if self.chance.randrange(2):
            made.append(call(p, *arguments))
        if self.chance.randrange(3) == 0:
            # Some of the time a thread makes the procedure.
            made[0] = ("thread", made[0])
        return local(p, *made, self.statement(known, max(1, size // 2 - 1)))

    def result(self, known, size):
        """A new variable for the result of an operation, and then something with it."""
        ints, tuples = self.of_kind(known, "int"), self.of_kind(known, "tuple")
        kind = self.chance.choice(["int", "int", "compare", "same", "about", "part"])
        r = self.name()
        if kind == "int" and ints:
            y, z = self.chance.choice(ints), self.chance.choice(ints)
            first, second = self.trees.nodes[known[y]][1], self.trees.nodes[known[z]][1]
            sign = self.chance.choice("+-*<")
            value = {"+": first + second, "-": first - second, "*": first * second, "<": first < second}[sign]
            node = ("int", value) if sign != "<" else ("atom", "true" if value else "false")
            made = op(sign, r, y, z)
        elif kind == "about" and tuples:
            node = self.trees.nodes[known[tuples[0]]]
            word, node = self.chance.choice([("Label", ("atom", node[1])), ("Width", ("int", len(node[2])))])
            made = call(word, tuples[0], r)
        elif kind == "part" and tuples:
            parts = self.trees.nodes[known[tuples[0]]][2]
            place = self.chance.randrange(len(parts))
            n = self.name()
            made = local(n, ("int", n, place + 1), call("Part", tuples[0], n, r))
            return local(r, made, self.statement({**known, r: parts[place]}, size - 1))
        else:
            y = self.chance.choice(list(known))
            return local(r, op("==", r, y, y), self.statement({**known, r: self.trees.put(("atom", "true"))}, size - 1))
        return local(r, made, self.statement({**known, r: self.trees.put(node)}, size - 1))


def is_good(program):
    try:
        check(program)
    except BadProgram:
        return False
    return True


def program(seed, size, needs=True):
    """A program with the given variables X, Y and Z, with up to four threads from the beginning on."""
    return team(seed, size, 1, needs)[0]


def team(seed, size, many, needs=False):
    """Programs that agree with each other, too."""
    chance = random.Random(seed)
    trees = Trees(chance, chance.choice([3, 5, 8]))
    drawing = Drawing(chance, trees, needs)
    every = {x: chance.randrange(len(trees.nodes)) for x in "XYZUW"}
    result = []
    for _ in range(many):
        given = tuple("XYZ") if many == 1 else tuple(sorted(chance.sample("XYZUW", chance.randint(2, 4))))
        known = {x: every[x] for x in given}
        threads = chance.randint(1, 4)
        parts = [drawing.statement(known, max(1, size // threads)) for _ in range(threads)]
        result.append((given, seq(*[("thread", part) for part in parts[1:]], parts[0])))
    return result


def programs(seeds, size, needs=True):
    """The good ones; a few of the drawn ones are nested too deep."""
    return [found for found in (program(seed, size, needs) for seed in seeds) if is_good(found)]
