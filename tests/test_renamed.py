import random
import unittest

from leatwork.errors import BadProgram
from leatwork.programs import BUILT_IN, check, renamed
from leatwork.schedules import outcome_by
from tests import drawn
from tests.build import SKIP, call, local, op, seq

GIVEN = ("X", "Y")


def made_by(statement):
    """All identifiers that statements make known, by the words of point 10."""
    word = statement[0]
    if word == "local":
        return {statement[1]} | made_by(statement[2])
    if word == "proc":
        return set(statement[2]) | made_by(statement[3])
    if word == "case":
        made = set(statement[2][2]) if statement[2][0] == "tuple" else set()
        return made | made_by(statement[3]) | made_by(statement[4])
    if word == "try":
        return {statement[2]} | made_by(statement[1]) | made_by(statement[3])
    inside = {"seq": statement[1:], "if": statement[2:], "thread": statement[1:], "need": statement[2:],
              "choose": statement[1:]}.get(word, ())
    return {x for s in inside for x in made_by(s)}


class Numbering:
    """Writes a statement with a number of its own for each place that makes an identifier."""

    def __init__(self):
        self.many = 0

    def fresh(self, names, env):
        env = dict(env)
        for name in names:
            self.many += 1
            env[name] = self.many
        return env, tuple(env[name] for name in names)

    def write(self, s, env):
        word = s[0]
        if word in ("skip", "seq", "thread", "choose"):
            return (word,) + tuple(self.write(t, env) for t in s[1:])
        if word == "local":
            inner, (x,) = self.fresh([s[1]], env)
            return word, x, self.write(s[2], inner)
        if word in ("int", "atom"):
            return word, env[s[1]], s[2]
        if word in ("bind", "raise"):
            return (word,) + tuple(env[x] for x in s[1:])
        if word == "tuple":
            return word, env[s[1]], s[2], tuple(env[x] for x in s[3])
        if word == "proc":
            inner, ys = self.fresh(s[2], env)
            return word, env[s[1]], ys, self.write(s[3], inner)
        if word == "if":
            return word, env[s[1]], self.write(s[2], env), self.write(s[3], env)
        if word == "case":
            ys = s[2][2] if s[2][0] == "tuple" else ()
            inner, ys = self.fresh(ys, env)
            return word, env[s[1]], s[2][:2], ys, self.write(s[3], inner), self.write(s[4], env)
        if word == "call":
            return word, env[s[1]], tuple(env[x] for x in s[2])
        if word == "op":
            return (word, s[1]) + tuple(env[x] for x in s[2:])
        if word == "need":
            return word, env[s[1]], self.write(s[2], env)
        assert word == "try"
        inner, (x,) = self.fresh([s[2]], env)
        return word, self.write(s[1], env), x, self.write(s[3], inner)


def numbered(program):
    known = {x: x for x in program[0] + BUILT_IN}
    return program[0], Numbering().write(program[1], known)


class Renamed(unittest.TestCase):

    def gives(self, statement, names, expected):
        self.assertEqual(renamed((GIVEN, statement), names), (GIVEN, expected))
        self.assertEqual(numbered((GIVEN, statement)), numbered((GIVEN, expected)))

    def bad(self, statement, names):
        with self.assertRaises(BadProgram):
            renamed((GIVEN, statement), names)

    def test_each_kind_that_makes_identifiers(self):
        self.gives(("local", "A", ("bind", "A", "X")), {"A": "B"}, ("local", "B", ("bind", "B", "X")))
        self.gives(("proc", "X", ("A", "B"), op("+", "A", "B", "X")), {"A": "C", "B": "A"},
                   ("proc", "X", ("C", "A"), op("+", "C", "A", "X")))
        self.gives(("case", "X", ("tuple", "f", ("A", "B")), ("bind", "A", "B"), ("bind", "X", "Y")),
                   {"A": "B", "B": "A"},
                   ("case", "X", ("tuple", "f", ("B", "A")), ("bind", "B", "A"), ("bind", "X", "Y")))
        self.gives(("try", ("raise", "X"), "E", ("raise", "E")), {"E": "F"}, ("try", ("raise", "X"), "F", ("raise", "F")))

    def test_all_other_kinds_within(self):
        inner = [SKIP, ("bind", "A", "X"), ("int", "A", 5), ("atom", "A", "a"), ("tuple", "A", "f", ("X", "A", "Wait")),
                 ("if", "A", SKIP, ("raise", "A")), ("case", "A", ("int", 1), ("raise", "A"), SKIP),
                 ("case", "A", ("atom", "a"), SKIP, ("raise", "A")), call("A", "X", "A", "A"), call("A"),
                 op("==", "A", "Y", "A"), ("thread", ("raise", "A")), ("need", "A", ("raise", "A")), ("raise", "A"),
                 ("choose", ("raise", "A"), ("int", "A", 1)), ("proc", "A", (), ("raise", "A")),
                 ("try", ("raise", "A"), "Z", ("bind", "Z", "A"))]
        expected = [SKIP, ("bind", "B", "X"), ("int", "B", 5), ("atom", "B", "a"), ("tuple", "B", "f", ("X", "B", "Wait")),
                    ("if", "B", SKIP, ("raise", "B")), ("case", "B", ("int", 1), ("raise", "B"), SKIP),
                    ("case", "B", ("atom", "a"), SKIP, ("raise", "B")), call("B", "X", "B", "B"), call("B"),
                    op("==", "B", "Y", "B"), ("thread", ("raise", "B")), ("need", "B", ("raise", "B")), ("raise", "B"),
                    ("choose", ("raise", "B"), ("int", "B", 1)), ("proc", "B", (), ("raise", "B")),
                    ("try", ("raise", "B"), "W", ("bind", "W", "B"))]
        self.gives(local("A", *inner), {"A": "B", "Z": "W"}, local("B", *expected))

    def test_given_ones_and_built_in_ones_stay(self):
        self.gives(("local", "A", call("Wait", "X", "A")), {"A": "B", "X": "Q", "Wait": "W", "Y": "A", "Zz": "1"},
                   ("local", "B", call("Wait", "X", "B")))
        self.gives(SKIP, {}, SKIP)
        self.gives(("bind", "X", "Y"), {"X": "Y", "Y": 7}, ("bind", "X", "Y"))

    def test_one_identifier_that_is_given_and_made(self):
        self.gives(seq(("raise", "X"), ("local", "X", ("bind", "X", "Y")), ("raise", "X")), {"X": "Z"},
                   seq(("raise", "X"), ("local", "Z", ("bind", "Z", "Y")), ("raise", "X")))
        self.gives(local("X", ("proc", "X", ("X",), ("raise", "X"))), {"X": "Z"},
                   local("Z", ("proc", "Z", ("Z",), ("raise", "Z"))))

    def test_what_a_statement_makes_is_not_what_it_uses(self):
        self.gives(("proc", "X", ("X",), ("raise", "X")), {"X": "Z"}, ("proc", "X", ("Z",), ("raise", "Z")))
        self.gives(("case", "X", ("tuple", "f", ("X", "Y")), ("bind", "X", "Y"), ("bind", "X", "Y")),
                   {"X": "Z", "Y": "X"},
                   ("case", "X", ("tuple", "f", ("Z", "X")), ("bind", "Z", "X"), ("bind", "X", "Y")))
        self.gives(("try", ("raise", "X"), "X", ("raise", "X")), {"X": "Z"}, ("try", ("raise", "X"), "Z", ("raise", "Z")))

    def test_one_identifier_that_is_made_twice(self):
        self.gives(("local", "A", seq(("local", "A", ("raise", "A")), ("raise", "A"))), {"A": "B"},
                   ("local", "B", seq(("local", "B", ("raise", "B")), ("raise", "B"))))

    def test_two_that_become_one_where_it_is_no_matter(self):
        self.gives(("seq", ("local", "A", ("raise", "A")), ("local", "B", ("raise", "B"))), {"A": "C", "B": "C"},
                   ("seq", ("local", "C", ("raise", "C")), ("local", "C", ("raise", "C"))))
        self.gives(("local", "A", ("local", "B", ("raise", "B"))), {"A": "C", "B": "C"},
                   ("local", "C", ("local", "C", ("raise", "C"))))
        # A given one that is not used there may be hidden.
        self.gives(("local", "A", ("bind", "A", "X")), {"A": "Y"}, ("local", "Y", ("bind", "Y", "X")))

    def test_what_would_stand_for_something_else(self):
        self.bad(("local", "A", ("bind", "A", "X")), {"A": "X"})
        self.bad(local("A B", ("bind", "A", "B")), {"A": "C", "B": "C"})
        self.bad(local("A B", ("bind", "A", "B")), {"A": "B", "B": "B"})
        self.bad(local("A B", ("raise", "A")), {"A": "C", "B": "C"})
        self.bad(("proc", "X", ("A",), ("raise", "X")), {"A": "X"})
        self.bad(("proc", "X", ("A",), ("proc", "X", ("B",), ("bind", "A", "B"))), {"A": "B", "B": "B"})
        self.bad(("try", SKIP, "E", ("bind", "E", "Y")), {"E": "Y"})
        self.bad(("case", "X", ("tuple", "f", ("A",)), ("bind", "A", "Y"), SKIP), {"A": "Y"})
        # Before what is made, it is still another one.
        self.gives(("try", ("raise", "Y"), "E", ("raise", "E")), {"E": "Y"}, ("try", ("raise", "Y"), "Y", ("raise", "Y")))
        self.gives(("case", "X", ("tuple", "f", ("A",)), SKIP, ("raise", "Y")), {"A": "Y"},
                   ("case", "X", ("tuple", "f", ("Y",)), SKIP, ("raise", "Y")))
        self.gives(("proc", "X", ("A",), ("raise", "A")), {"A": "X"}, ("proc", "X", ("X",), ("raise", "X")))

    def test_what_would_not_be_good(self):
        self.bad(("proc", "X", ("A", "B"), SKIP), {"A": "C", "B": "C"})
        self.bad(("case", "X", ("tuple", "f", ("A", "B")), SKIP, SKIP), {"A": "B", "B": "B"})
        for name in ("a", "", "A234567890123", "A b", "1", "Wait", "Part", None, 1, True, ("B",), ["B"]):
            self.bad(("local", "A", SKIP), {"A": name})
            self.bad(("proc", "X", ("A",), SKIP), {"A": name})
            self.bad(("case", "X", ("tuple", "f", ("A",)), SKIP, SKIP), {"A": name})
            self.bad(("try", SKIP, "A", SKIP), {"A": name})
            self.bad(("local", "A", ("raise", "A")), {"A": name})

    def test_nothing_is_modified(self):
        names = {"A": "B", "C": "D"}
        program = (GIVEN, ("local", "A", ("raise", "A")))
        renamed(program, names)
        with self.assertRaises(BadProgram):
            renamed(program, {"A": "Wait"})
        self.assertEqual(names, {"A": "B", "C": "D"})
        self.assertEqual(program, (GIVEN, ("local", "A", ("raise", "A"))))

    def test_drawn_programs(self):
        chance = random.Random(601)
        good, bad = 0, 0
        for seed in range(300):
            program = drawn.program(50300 + seed, 16)
            try:
                check(program)
            except BadProgram:
                continue
            made = sorted(made_by(program[1]))
            runs_alike = False
            pool = [f"N{k}" for k in range(len(made) * 4)] + made + ["X"]
            for _ in range(6):
                names = {x: chance.choice(pool) for x in made}
                if chance.randrange(2):
                    names = dict(zip(made, chance.sample(made, len(made))))
                try:
                    found = renamed(program, names)
                except BadProgram:
                    bad += 1
                    self.assertFalse(self.is_right(program, names))
                    continue
                good += 1
                self.assertTrue(self.is_right(program, names))
                self.assertEqual(numbered(found), numbered(program))
                self.assertTrue(made_by(found[1]) <= set(names.values()))
                if not runs_alike:
                    self.assertEqual(outcome_by(found, [1, 2, 3]), outcome_by(program, [1, 2, 3]))
                    runs_alike = True
        self.assertGreater(min(good, bad), 200)

    def is_right(self, program, names):
        """Whether the program is the same one with these names, written into it word by word."""
        result = program[0], self.written(program[1], set(), names)
        try:
            check(result)
        except BadProgram:
            return False
        return numbered(result) == numbered(program)

    def written(self, s, inner, names):
        """Replaces in a statement what is made inside of it, or is one of the inner ones."""
        word = s[0]
        made = {"local": s[1:2], "proc": s[2:3], "try": s[2:3]}.get(word, ())
        made = made[0] if word == "proc" else made
        if word == "case" and s[2][0] == "tuple":
            made = s[2][2]
        row = [word]
        for k, part in enumerate(s[1:], 1):
            known = inner | set(made) if (word, k) in [("local", 2), ("proc", 3), ("case", 3), ("try", 3)] else inner
            place = (word, k)
            if isinstance(part, tuple) and part and part[0] in (
                    "skip", "seq", "local", "bind", "int", "atom", "tuple", "proc", "if", "case", "call", "op", "thread",
                    "need", "try", "raise", "choose") and place != ("case", 2):
                row.append(self.written(part, known, names))
            elif place in [("local", 1), ("try", 2)]:
                row.append(names[part])
            elif place == ("proc", 2):
                row.append(tuple(names[x] for x in part))
            elif place == ("case", 2):
                row.append(part[:2] + (tuple(names[x] for x in part[2]),) if part[0] == "tuple" else part)
            elif isinstance(part, tuple):
                row.append(tuple(names[x] if x in inner else x for x in part))
            elif isinstance(part, str) and place not in [("atom", 2), ("tuple", 2), ("op", 1)]:
                row.append(names[part] if part in inner else part)
            else:
                row.append(part)
        return tuple(row)


if __name__ == "__main__":
    unittest.main()
