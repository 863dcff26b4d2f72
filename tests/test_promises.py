"""What is promised over the whole program: one result, however it comes about (points 1, 19, 33, 35, 38, 40, 43)."""

import random
import unittest

from leatwork.codemachine import CodeMachine
from leatwork.codes import compiled
from leatwork.collecting import collected
from leatwork.machine import Machine
from leatwork.programs import is_declarative
from leatwork.schedules import outcome_by, run
from leatwork.search import first_solution, shape, solutions
from leatwork.spaces import Space
from leatwork.teams import Team, together
from leatwork.traces import replay, trace
from tests import agreeing, drawn
from tests.build import call, local, op, seq
from tests.machines import statuses


def some_schedule(chance):
    return [chance.randrange(100) for _ in range(chance.randrange(250))]


def run_collected(machine, chance):
    """Takes drawn steps and collects the machine at drawn moments."""
    while machine.ready():
        machine.step(chance.choice(machine.ready()))
        if chance.randrange(6) == 0:
            machine = collected(machine)
    return collected(machine)


def spread(program, chance):
    """The threads of a program over two or three sites, each with all given variables, or None if there are too few."""
    given, statement = program
    parts = []
    while statement[0] == "seq" and statement[1][0] == "thread":
        parts.append(statement[1][1])
        statement = statement[2]
    parts.append(statement)
    sites = min(len(parts), chance.choice([2, 3]))
    if sites < 2:
        return None
    rows = [[] for _ in range(sites)]
    for k, part in enumerate(parts):
        rows[k % sites].append(part)
    return [(given, seq(*[("thread", part) for part in row[1:]], row[0])) for row in rows]


def added_up(outcomes):
    counts = {}
    for _, pairs in outcomes:
        for status, number in pairs:
            counts[status] = counts.get(status, 0) + number
    return tuple(sorted(counts.items()))


class OneOutcome(unittest.TestCase):

    def all_ways(self, program, chance):
        """All ways to run a declarative program in which nothing is raised."""
        self.assertIs(is_declarative(program), True)
        outcome = outcome_by(program, [])
        for _ in range(3):
            self.assertEqual(outcome_by(program, some_schedule(chance)), outcome)
        self.assertEqual(run_collected(Machine(program), chance).outcome(), outcome)
        code = CodeMachine(compiled(program))
        run(code, some_schedule(chance))
        self.assertEqual(code.outcome(), outcome)
        space = Space(program)
        self.assertEqual((space.ask(), space.outcome()), ("waiting" if outcome[1] else "done", outcome))
        self.assertEqual(solutions(program), [] if outcome[1] else [((), outcome)])
        events = trace(program, some_schedule(chance))
        self.assertEqual(replay(program, events), len(events))
        self.assertEqual(Machine(program).outcome()[1], (("ready", 1),))
        return outcome

    def test_programs_that_agree(self):
        chance = random.Random(1701)
        outcomes = [self.all_ways(program, chance) for program in agreeing.programs(range(26000, 26150), 22)]
        self.assertGreater(len(set(outcomes)), 60)
        self.assertGreater(sum(not pairs for _, pairs in outcomes), 10)

    def test_drawn_programs(self):
        chance = random.Random(1702)
        compared = 0
        for seed in range(26200, 26500):
            program = drawn.program(seed, 20, declarative=True, tame=True)
            if not agreeing.is_good(program):
                continue
            machines = [Machine(program) for _ in range(3)]
            for machine in machines:
                run(machine, some_schedule(chance))
            if any("broken" in statuses(machine) or machine.ready() for machine in machines):
                continue
            self.all_ways(program, chance)
            compared += 1
        self.assertGreater(compared, 60)

    def test_on_one_site_or_on_several(self):
        chance = random.Random(1703)
        compared = 0
        for program in agreeing.programs(range(26600, 26800), 18, needs=False):
            programs = spread(program, chance)
            outcome = outcome_by(program, [])
            if programs is None or "<" in "".join(outcome[0]):
                continue
            team = Team(programs)
            team.play(some_schedule(chance))
            outcomes = [team.outcome(site) for site in range(len(programs))]
            self.assertEqual([texts for texts, _ in outcomes], [outcome[0]] * len(programs))
            self.assertEqual(added_up(outcomes), outcome[1])
            self.assertEqual(outcome_by(together(programs), some_schedule(chance)), outcome)
            compared += 1
        self.assertGreater(compared, 100)

    def test_what_a_team_does_together_compiled_and_collected(self):
        chance = random.Random(1704)
        for seed in range(26900, 26960):
            programs = agreeing.team(seed, 12, 3)
            program = together(programs)
            outcome = outcome_by(program, [])
            code = CodeMachine(compiled(program))
            run(code, some_schedule(chance))
            self.assertEqual(code.outcome(), outcome)
            self.assertEqual(run_collected(Machine(program), chance).outcome(), outcome)
            team = Team(programs)
            team.play(some_schedule(chance))
            self.assertEqual(added_up([team.outcome(site) for site in range(3)]), outcome[1])

    def test_solutions_of_programs_with_choices(self):
        """Each machine of the tree may be collected; the solutions are the same."""
        chance = random.Random(1705)
        compared = 0
        for seed in range(27000, 27300):
            program = drawn.program(seed, 14, tame=True)
            if not agreeing.is_good(program) or "choose" not in repr(program):
                continue
            plain, other = self.leaves(Machine(program), chance, False), self.leaves(Machine(program), chance, True)
            self.assertEqual(plain, other)
            if plain is not None:
                self.assertEqual([outcome for _, outcome in solutions(program)],
                                 [outcome for outcome, status in plain if status == ["done"]])
                compared += len(plain) > 1
                first = first_solution(program)
                self.assertEqual(first is None, solutions(program) == [])
                self.assertEqual(len(shape(program).replace("(", "").replace(")", "")), len(plain))
        self.assertGreater(compared, 10)

    def leaves(self, machine, chance, collecting):
        """The outcomes of the leaves of the search tree, and which statuses are there; or None if there are many."""
        found, todo = [], [machine]
        while todo:
            one = todo.pop()
            run(one, [])
            there = sorted(set(statuses(one)))
            if "choosing" not in there or "ready" in there or "broken" in there:
                found.append((one.outcome(), there))
                continue
            if len(found) + len(todo) > 60:
                return None
            for second in (True, False):
                child = collected(one) if collecting else one.copy()
                child.choose(statuses(one).index("choosing"), second)
                todo.append(child)
        return found


class Whole(unittest.TestCase):

    def test_sums_of_a_stream(self):
        """By need, on one site; without need, on two: the numbers from 1 to 9, and their sum."""
        def produce(last):
            return local("O M R B", ("int", "O", 1), op("+", "M", "N", "O"), ("int", "R", 9), op("<", "B", "R", "N"), (
                "if", "B", ("atom", "S", "nil"), local("T", ("tuple", "S", "cons", ("N", "T")), last)))

        consume = ("case", "S", ("tuple", "cons", ("H", "T")),
                   local("B", op("+", "B", "A", "H"), call("Q", "T", "B", "Y")),
                   ("bind", "Y", "A"))
        first = local("P N", ("proc", "P", ("N", "S"), produce(call("P", "M", "T"))), ("int", "N", 1),
                      call("P", "N", "S"))
        lazy = local("P N", ("proc", "P", ("N", "S"), produce(("need", "T", call("P", "M", "T")))), ("int", "N", 1), (
            "need", "S", call("P", "N", "S")))
        second = local("Q N", ("proc", "Q", ("S", "A", "Y"), consume), ("int", "N", 0), call("Q", "S", "N", "Y"))
        stream = "cons(" + " cons(".join(map(str, range(1, 10))) + " nil" + ")" * 9
        chance = random.Random(1706)
        for one in (first, lazy):
            program = (("S", "Y"), seq(("thread", one), second))
            for _ in range(5):
                self.assertEqual(outcome_by(program, some_schedule(chance)), ((stream, "45"), ()))
                self.assertEqual(run_collected(Machine(program), chance).outcome(), ((stream, "45"), ()))
                code = CodeMachine(compiled(program))
                run(code, some_schedule(chance))
                self.assertEqual(code.outcome(), ((stream, "45"), ()))
        for _ in range(5):
            team = Team([(("S",), first), (("S", "Y"), second)])
            team.play(some_schedule(chance))
            self.assertEqual([team.outcome(site) for site in (0, 1)], [((stream,), ()), ((stream, "45"), ())])


if __name__ == "__main__":
    unittest.main()
