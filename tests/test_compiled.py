"""Compiled programs (point 33)."""

import random
import unittest

from leatwork.codemachine import CodeMachine
from leatwork.codes import compiled, is_code
from leatwork.collecting import node_count
from leatwork.machine import Machine
from leatwork.programs import check, is_declarative
from leatwork.schedules import outcome_by, run
from leatwork.texts import read_graph
from tests import agreeing, drawn, ways
from tests.build import SKIP, call, deep, evenly, local, op, seq
from tests.machines import raised, row, statuses

BUILT_IN = ("Wait", "IsDet", "NewCell", "Exchange", "NewPort", "Send", "Label", "Width", "Part")
BOUNDS = ("memory", "stack", "threads")


def statements(value):
    """All tuples in a statement that are statements."""
    words = {"skip", "seq", "local", "bind", "int", "atom", "tuple", "proc", "if", "case", "call", "op", "thread",
             "need",
             "try", "raise", "choose"}
    inner = [part for part in value[1:] if isinstance(part, tuple) and part and part[0] in words]
    if value[0] == "case":
        inner = list(value[3:])
    return [value] + [found for part in inner for found in statements(part)]


def random_schedules(chance, many):
    return [[chance.randrange(100) for _ in range(chance.randrange(300))] for _ in range(many)]


class Counting:
    """Runs the machine of a program and counts what is done in it."""

    def __init__(self, program, schedule):
        self.machine = Machine(program)
        self.entered = 0
        self.raised = set()
        for n in range(3000):
            ready = self.machine.ready()
            if not ready:
                break
            thread = ready[schedule[n] % len(ready) if n < len(schedule) else 0]
            self.step(thread)

    def step(self, thread):
        before = self.machine.crew.members[thread].stack[-1]
        self.machine.step(thread)
        if before[0][0] == "try":
            self.entered += 1
        if before[0][0] == "call":
            value = self.machine.graph(before[1][before[0][1]])[0]
            self.entered += value[:2] == ("name", "proc")


class CodeRun:
    """Runs the machine of a code and finds its highest stack and what is raised in it, caught or not."""

    def __init__(self, code, schedule):
        self.machine = CodeMachine(code)
        self.frames = 1
        for n in range(3000):
            ready = self.machine.ready()
            if not ready:
                break
            self.machine.step(ready[schedule[n] % len(ready) if n < len(schedule) else 0])
            self.frames = max(self.frames, *[len(thread.stack) + sum(len(active.handlers) for active in thread.stack)
                                             for thread in self.machine.crew.members])


class Form(unittest.TestCase):

    def is_well_formed(self, program):
        text = repr(program)
        code = compiled(program)
        self.assertIs(is_code(code), True)
        self.assertEqual(code[0][0], len(program[0]))
        self.assertLessEqual(sum(len(rows) for _, _, rows in code), 20 * len(statements(program[1])) + 20)
        for given, _, rows in code:
            ways.check_unit(given, rows)
        self.assertEqual(compiled(program), code)
        self.assertEqual(repr(program), text)
        return code

    def test_drawn_programs(self):
        for seed in range(300):
            program = drawn.program(7000 + seed, 5 + seed % 40)
            if agreeing.is_good(program):
                self.is_well_formed(program)
        for program in agreeing.programs(range(7300, 7400), 25):
            self.is_well_formed(program)

    def test_each_statement(self):
        x, y = "X", "Y"
        for statement in [
                SKIP, ("bind", x, y), ("int", x, -10 ** 9), ("atom", x, "a"), ("tuple", x, "f", (y, "Wait")),
                ("proc", x, (), SKIP), ("proc", x, ("A", y), call("X", "A", y, "Wait")), ("if", x, SKIP, SKIP),
                ("case", x, ("int", 1), SKIP, SKIP), ("case", x, ("atom", "a"), ("int", x, 1), SKIP),
                ("case", x, ("tuple", "f", (x, "A")), ("bind", x, "A"), ("bind", x, y)), call(x, *([y] * 7)), call(x),
                op("==", x, x, y), ("thread", ("bind", x, y)), ("need", x, ("bind", x, y)),
                ("try", ("raise", x), x, ("raise", x)), ("raise", x),
                ("choose", ("bind", x, y), ("choose", SKIP, SKIP)),
                ("local", x, ("bind", x, y)), ("seq", SKIP, SKIP)]:
            program = ((x, y), statement)
            check(program)
            self.is_well_formed(program)
            self.is_well_formed(((x, y), seq(statement, statement, ("thread", statement))))

    def test_programs_at_the_edges(self):
        deepest = ("tuple", "X", "f", ("X",))
        for word in ("thread", "need", "local", "proc", "try", "choose", "if", "case"):
            statement = deepest
            for k in range(29):
                statement = {
                    "thread": ("thread", statement), "need": ("need", "X", statement),
                    "local": ("local", "X" if k % 2 else f"A{k}", statement),
                    "proc": ("proc", "X", (f"A{k}", "X"), statement),
                    "try": ("try", statement, "X", SKIP), "choose": ("choose", SKIP, statement),
                    "if": ("if", "X", statement, SKIP), "case": ("case", "X", ("tuple", "f", ("X", f"A{k}")),
                                                                 statement, SKIP),
                }[word]
            program = (("X",), statement)
            check(program)
            self.is_well_formed(program)
        for statement in [evenly([("thread", SKIP)] * 66 + [SKIP]), evenly([("proc", "X", (), SKIP)] * 66),
                          evenly([call("Wait", *BUILT_IN[:7])] * 100),
                          evenly([("tuple", "Wait", "f", BUILT_IN[:6])] * 100),
                          evenly([("case", "X", ("tuple", "f", tuple("ABCDEF")), SKIP, SKIP)] * 50)]:
            program = (tuple("XABCDEFGHIJK"), statement)
            check(program)
            self.is_well_formed(program)
        self.is_well_formed(((), deep(30)))
        self.is_well_formed(((), SKIP))

    def test_many_identifiers_around_a_thread(self):
        inner = ("thread", evenly([("bind", f"A{k}", "X") for k in range(100) if k % 4 == 0] + [SKIP]))
        for k in range(6):
            inner = ("case", "X", ("tuple", "f", tuple(f"A{6 * k + j}" for j in range(6))), inner, SKIP)
        names = tuple(f"A{k}" for k in range(100) if k % 4 == 0 and k >= 36)
        for k in range(0, len(names), 6):
            inner = ("case", "X", ("tuple", "f", names[k:k + 6]), inner, SKIP)
        program = (("X",), inner)
        check(program)
        self.is_well_formed(program)


class Declarative(unittest.TestCase):

    def compare(self, program, chance, schedules=4):
        """Compares a run of the program with runs of its code; tells whether nothing is raised in some of them."""
        self.assertIs(is_declarative(program), True)
        plain = Counting(program, random_schedules(chance, 1)[0])
        machine = plain.machine
        if machine.ready() or "broken" in statuses(machine) or machine.steps() >= 3000:
            return False
        code = compiled(program)
        compared = False
        for schedule in random_schedules(chance, schedules) + [[]]:
            found = CodeRun(code, schedule)
            other = found.machine
            for thread in range(other.threads()):
                if other.raised(thread) is not None:
                    self.assertIn(other.raised(thread), [(("atom", word),) for word in BOUNDS])
            if "broken" not in statuses(other) and not other.ready() and other.steps() < 3000:
                self.assertEqual(other.outcome(), machine.outcome())
                compared = True
            self.assertLessEqual(node_count(other), node_count(machine))
            self.assertLessEqual(other.threads(), machine.threads())
            self.assertLessEqual(other.steps(), 20 * (machine.steps() + machine.threads()))
            self.assertLessEqual(found.frames, 1 + plain.entered)
        return compared

    def test_programs_that_agree(self):
        chance = random.Random(801)
        found = [self.compare(program, chance) for program in agreeing.programs(range(8000, 8250), 22)]
        self.assertGreater(sum(found), 200)

    def test_drawn_programs(self):
        chance = random.Random(802)
        programs = [drawn.program(seed, 24, declarative=True, tame=True) for seed in range(8300, 8700)]
        found = [self.compare(program, chance) for program in programs if agreeing.is_good(program)]
        self.assertGreater(sum(found), 100)

    def test_a_sum(self):
        """A producer, a consumer, and a stream between them, which is made by need."""
        produce = local("M R O", seq(("tuple", "S", "cons", ("N", "R")), ("int", "O", 1), op("+", "M", "N", "O"),
                                     ("need", "R", call("P", "M", "R"))))
        consume = local("B O M", ("int", "O", 0), op("==", "B", "K", "O"), ("if", "B", ("bind", "T", "A"), (
            "case", "S", ("tuple", "cons", ("H", "R")), local(
                "C D", op("+", "C", "A", "H"), ("int", "D", 1), op("-", "M", "K", "D"), call("Q", "R", "M", "C", "T")),
                SKIP)))
        program = (("T", "S"), local(
            "P Q Z K", ("proc", "P", ("N", "S"), produce), ("proc", "Q", ("S", "K", "A", "T"), consume),
            ("int", "Z", 0),
            ("int", "K", 10), ("thread", call("Q", "S", "K", "Z", "T")), ("need", "S", call("P", "Z", "S"))))
        check(program)
        self.assertIs(self.compare(program, random.Random(803), 20), True)
        self.assertEqual(CodeRun(compiled(program), []).machine.outcome()[0][0], "45")

    def test_a_long_loop(self):
        """Its calls are the last ones in their bodies; the code may raise `stack`, and nothing else."""
        body = ("case", "L", ("tuple", "c", ("T",)), call("P", "T"), ("atom", "X", "end"))
        program = (("X", "L"), local("P", ("proc", "P", ("L",), body), call("P", "L")))
        for many in (1, 2, 100, 199, 250, 300):
            machine, code = Machine(program), CodeMachine(compiled(program))
            for one in (machine, code):
                one.tell(one.given(1), one.add(read_graph(row(many - 1))))
                run(one, [])
            self.assertEqual(machine.outcome()[0][0], "end")
            # As many calls as there are nodes in the row.
            self.assertEqual((code.status(0), raised(code)), ("done", None) if many < 200 else ("broken", "stack"))
            if many < 200:
                self.assertEqual(code.outcome(), machine.outcome())


class OneThread(unittest.TestCase):
    """Programs of all kinds without threads, choices and needs."""

    def compare(self, program):
        """Whether both end, and raise nothing by lack of room."""
        plain, found = Counting(program, []), CodeRun(compiled(program), [])
        machine, other = plain.machine, found.machine
        if machine.ready() or other.ready() or machine.steps() >= 3000 or other.steps() >= 3000:
            return False
        if raised(machine) in ("memory", "stack") or raised(other) in ("memory", "stack"):
            return False
        self.assertEqual(other.outcome(), machine.outcome(), program)
        self.assertEqual(other.raised(0), machine.raised(0))
        self.assertLessEqual(node_count(other), node_count(machine))
        self.assertEqual((other.threads(), machine.threads()), (1, 1))
        self.assertLessEqual(other.steps(), 20 * (machine.steps() + 1))
        self.assertLessEqual(found.frames, 1 + plain.entered)
        return True

    def without_threads(self, statement):
        if statement[0] == "thread":
            return ("seq", SKIP, self.without_threads(statement[1]))
        return tuple(self.without_threads(part) if isinstance(part,
                                                              tuple) and part and k + (statement[0] == "case") != 3
                     and isinstance(part[0], str) and part[0].islower() else part for k, part in enumerate(statement))

    def test_drawn_programs(self):
        compared, kinds = 0, {}
        for seed in range(9000, 10500):
            given, statement = drawn.program(seed, 6 + seed % 25, choices=False, needs=False, tame=seed % 3 == 0)
            program = (given, self.without_threads(statement))
            if not agreeing.is_good(program) or any(s[0] in ("thread", "need",
                                                             "choose") for s in statements(program[1])):
                continue
            if self.compare(program):
                compared += 1
                kinds[raised(CodeRun(compiled(program), []).machine)] = True
        self.assertGreater(compared, 600)
        for atom in (None, "failure", "type", "arity"):
            self.assertIn(atom, kinds)

    def test_what_is_raised(self):
        cases = [
            (("raise", "X"), "_0"), (local("A", ("raise", "A")), "_18"), (("raise", "Wait"), "<builtin 0>"),
            (seq(("int", "X", 1), ("int", "X", 2)), "failure"), (local("A", ("int", "A", 1), call("A")), "type"),
            (("try", ("raise", "X"), "E", ("raise", "E")), "_0"), (call("Wait"), "arity"),
            (("try", seq(("int", "X", 1), ("atom", "X", "a")), "E",
              local("T", ("tuple", "T", "f", ("E",)), ("raise", "T"))),
             "f(failure)"),
            (local("P", ("proc", "P", ("A",), ("raise", "A")), ("try", call("P", "P"), "E", ("raise", "E"))),
             "<proc 0>"),
            (("try", ("try", ("raise", "X"), "E", ("raise", "Y")), "F", ("raise", "F")), "_1"),
            (("seq", ("try", SKIP, "E", SKIP), ("raise", "Y")), "_1")]
        for statement, expected in cases:
            program = (("X", "Y"), statement)
            check(program)
            self.assertIs(self.compare(program), True, statement)
            machine = CodeMachine(compiled(program))
            run(machine, [])
            self.assertEqual((machine.status(0), raised(machine)), ("broken", expected))

    def test_names_of_built_in_procedures_as_values(self):
        cases = [
            (call("Wait", "Wait"), "_0"), (("tuple", "X", "f", ("Wait", "Part")), "f(<builtin 0> <builtin 8>)"),
            (seq(("bind", "X", "Label"), call("X", "Y", "Y")), "<builtin 6>"), (op("==", "X", "Wait", "Wait"), "true"),
            (op("==", "X", "Wait", "Part"), "false"), (("if", "Wait", SKIP, SKIP), "_0"),
            (("case", "Wait", ("atom", "wait"), SKIP, ("int", "X", 1)), "1"), (call("IsDet", "Send", "X"), "true"),
            (local("P", ("proc", "P", ("F",), call("F", "Wait", "X")), call("P", "NewCell")), "<cell 0>"),
            (("try", ("raise", "Send"), "E", ("bind", "X", "E")), "<builtin 5>"),
            (("try", call("Exchange", "Send", "X", "Part"), "E", ("bind", "X", "E")), "type")]
        for statement, expected in cases:
            program = (("X", "Y"), statement)
            check(program)
            self.assertIs(self.compare(program), True)
            self.assertEqual(CodeRun(compiled(program), []).machine.outcome()[0][0], expected)

    def test_identifiers_that_are_made_known_again(self):
        statement = seq(("int", "X", 1), local("X", ("int", "X", 2), ("tuple", "Y", "f", ("X",))), (
            "case", "Y", ("tuple", "f", ("X",)), ("tuple", "Z", "g", ("X",)), SKIP), (
            "try", ("raise", "Y"), "X", ("tuple", "U", "h", ("X",))), local("P", (
                "proc", "P", ("X",), local("Y", ("bind", "X", "Y"), ("int", "Y", 9))), call("P", "V")))
        program = (("X", "Y", "Z", "U", "V"), statement)
        check(program)
        self.assertIs(self.compare(program), True)
        self.assertEqual(CodeRun(compiled(program), []).machine.outcome(), (("1", "f(2)", "g(2)", "h(f(2))", "9"), ()))


class Others(unittest.TestCase):

    def test_choices(self):
        program = (("X", "Y"), seq(("choose", ("int", "X", 1), ("choose", ("int", "X", 2), ("int", "X", 3))),
                                   ("int", "Y", 1)))
        for choices, expected in [((False,), "1"), ((True, False), "2"), ((True, True), "3")]:
            machine = CodeMachine(compiled(program))
            for second in choices:
                run(machine, [])
                self.assertEqual(machine.status(0), "choosing")
                machine.choose(0, second)
            run(machine, [])
            self.assertEqual(machine.outcome(), ((expected, "1"), ()))

    def test_wait_for_one_another(self):
        program = (("X", "Y", "Z"), seq(("thread", op("+", "Y", "X", "X")), ("thread", op("+", "Z", "Y", "X")),
                                        ("int", "X", 1)))
        for schedule in ([], [1, 2, 1, 0, 2], [2, 2, 2, 2], [5, 3, 1]):
            machine = CodeMachine(compiled(program))
            run(machine, schedule)
            self.assertEqual(machine.outcome(), (("1", "2", "3"), ()))
            self.assertEqual(machine.outcome(), outcome_by(program, schedule))


if __name__ == "__main__":
    unittest.main()
