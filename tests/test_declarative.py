"""What is promised of runs (points 13, 17 and 19)."""

import random
import unittest

from leatwork.errors import TooMany
from leatwork.graphs import compare
from leatwork.machine import Machine
from leatwork.programs import check, is_declarative
from leatwork.schedules import all_outcomes, outcome_by, run
from tests import drawn
from tests.agreeing import is_good
from tests.build import call, local, op, seq
from tests.machines import size, statuses


def programs(seeds, size_of_each, **options):
    for seed in seeds:
        program = drawn.program(seed, size_of_each, declarative=True, tame=True, **options)
        # A few of the drawn ones are nested too deep.
        if is_good(program):
            assert is_declarative(program)
            yield program


def raises_nothing(machine):
    return "broken" not in statuses(machine)


def as_one_tree(machine, nodes):
    """What the nodes stand for, with numbers as they are met."""
    numbers = {}
    rows = []
    for node in nodes:
        row = []
        for part in machine.graph(node):
            if part[0] == "var" or part[0] == "name" and part[1] != "builtin":
                part = part[:-1] + (numbers.setdefault(part, len(numbers)),)
            row.append(part)
        rows.append(tuple(row))
    return rows


class Runs(unittest.TestCase):

    def test_what_is_bound_stays_so_and_no_thread_waits_for_what_is_bound(self):
        chance = random.Random(501)
        for seed in range(80):
            machine = Machine(drawn.program(80000 + seed, 25, tame=True))
            bound = {}
            for _ in range(100):
                if not machine.ready():
                    break
                machine.step(chance.choice(machine.ready()))
                for k in range(machine.threads()):
                    waits = machine.waits_for(k)
                    self.assertEqual(waits is None, machine.status(k) != "waiting")
                    if waits is not None:
                        self.assertEqual(machine.graph(waits), (("var", waits),))
                for k in range(size(machine)):
                    graph = machine.graph(k)
                    if k in bound:
                        self.assertEqual(graph[0][:2], bound[k])
                    elif graph[0][0] != "var":
                        bound[k] = graph[0][:2]

    def test_the_same_outcome_by_all_schedules(self):
        chance = random.Random(502)
        compared = 0
        for program in programs(range(90000, 90600), 24):
            machines = [Machine(program) for _ in range(8)]
            for k, machine in enumerate(machines):
                run(machine, [chance.randrange(7) for _ in range(k * 20)])
            if all(raises_nothing(machine) and not machine.ready() for machine in machines):
                self.assertEqual(len({machine.outcome() for machine in machines}), 1, program)
                compared += any(machines[0].threads() > 1 and text != f"_{k}" for k, text in enumerate(
                    machines[0].outcome()[0]))
        self.assertGreater(compared, 40)

    def test_one_outcome_of_all_orders(self):
        compared = 0
        for program in programs(range(91000, 91200), 5, needs=False):
            try:
                found = all_outcomes(program, 2000)
            except TooMany:
                continue
            if all("broken" not in dict(counts) for _, counts in found):
                self.assertEqual(found, [outcome_by(program, [])])
                compared += 1
        self.assertGreater(compared, 30)

    def test_streams(self):
        """A producer and a consumer, which sums up a row that is made by need."""
        produce = local("M R O", seq(
            ("tuple", "S", "cons", ("N", "R")), ("int", "O", 1), op("+", "M", "N", "O"),
            ("need", "R", call("Produce", "M", "R"))))
        consume = local("B O M", ("int", "O", 0), op("==", "B", "K", "O"), ("if", "B", ("bind", "T", "A"), (
            "case", "S", ("tuple", "cons", ("H", "R")), local(
                "C D", op("+", "C", "A", "H"), ("int", "D", 1), op("-", "M", "K", "D"),
                call("Consume", "R", "M", "C", "T")), ("raise", "S"))))
        program = (("T", "L"), local(
            "Produce Consume Z K S", ("proc", "Produce", ("N", "S"), produce),
            ("proc", "Consume", ("S", "K", "A", "T"), consume), ("int", "Z", 0), ("int", "K", 10), ("bind", "L", "S"),
            ("thread", call("Consume", "S", "K", "Z", "T")), ("need", "S", call("Produce", "Z", "S"))))
        check(program)
        expected = "cons(0 cons(1 cons(2 cons(3 cons(4 cons(5 cons(6 cons(7 cons(8 cons(9 _0))))))))))"
        chance = random.Random(503)
        for _ in range(40):
            schedule = [chance.randrange(100) for _ in range(chance.randrange(200))]
            self.assertEqual(outcome_by(program, schedule), (("45", expected), ()))


class BothOrders(unittest.TestCase):

    def stepped(self, machine, order):
        """The machine behind two steps, or None if one waits or raises something."""
        machine = machine.copy()
        for k in order:
            before = machine.copy()
            machine.step(k)
            if machine.status(k) in ("waiting", "broken") or raises(before, k):
                return None
        return machine

    def test_two_ready_threads(self):
        chance = random.Random(504)
        compared = 0
        for program in programs(range(95000, 95250), 24, needs=False):
            machine = Machine(program)
            for _ in range(60):
                ready = machine.ready()
                if len(ready) > 1:
                    pair = chance.sample(ready, 2)
                    one, other = self.stepped(machine, pair), self.stepped(machine, pair[::-1])
                    if one is not None and other is not None:
                        self.alike(machine, one, other)
                        compared += 1
                if not ready:
                    break
                machine.step(chance.choice(ready))
        self.assertGreater(compared, 1000)

    def alike(self, machine, one, other):
        """The machines differ only in numbers: new threads may have changed their places."""
        self.assertEqual((one.threads(), one.steps(), size(one)), (other.threads(), other.steps(), size(other)))
        old = range(machine.threads())
        self.assertEqual([one.status(k) for k in old], [other.status(k) for k in old])
        self.assertEqual(sorted(statuses(one)), sorted(statuses(other)))
        # What was there before stands for the same, and is represented by the same of the old nodes.
        nodes = range(size(machine))
        self.assertEqual(as_one_tree(one, nodes), as_one_tree(other, nodes))
        run(one, [])
        run(other, [])
        if raises_nothing(one) and not one.ready() and raises_nothing(other):
            self.assertEqual(one.outcome(), other.outcome())
            for k in range(3):
                self.assertEqual(compare(as_one_tree(one, [k])[0], as_one_tree(other, [k])[0]), 0)


def raises(machine, thread):
    """Whether the step raises something: without a try, it breaks the thread then."""
    machine.step(thread)
    return machine.raised(thread) is not None


if __name__ == "__main__":
    unittest.main()
