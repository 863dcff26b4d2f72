"""The names, arguments and places that the interface of DOC.md lists."""

import inspect
import unittest

from leatwork import (
    codemachine, codes, collecting, errors, machine, programs, schedules, search, sites, spaces, store, teams, traces)
from leatwork.codemachine import CodeMachine
from leatwork.errors import BadProgram, Failed, LeatworkError, NotReady, TooMany
from leatwork.machine import Machine
from leatwork.sites import Net
from leatwork.spaces import Space
from leatwork.store import Store
from leatwork.teams import Team
from tests import drawn
from tests.build import SKIP

FUNCTIONS = [
    (programs, "check", ["program"]), (programs, "uses", ["statement"]), (programs, "is_declarative", ["program"]),
    (programs, "renamed", ["program", "names"]), (schedules, "run", ["machine", "schedule"]),
    (schedules, "outcome_by", ["program", "schedule"]), (schedules, "all_outcomes", ["program", "most"]),
    (codes, "is_code", ["value"]), (codes, "compiled", ["program"]), (collecting, "node_count", ["machine"]),
    (collecting, "needed", ["machine"]), (collecting, "collected", ["machine"]), (search, "solutions", ["program"]),
    (search, "first_solution", ["program"]), (search, "replayed", ["program", "path"]), (search, "shape", ["program"]),
    (teams, "together", ["programs"]), (traces, "trace", ["program", "schedule"]),
    (traces, "replay", ["program", "events"]), (traces, "causes", ["events", "index"]), (traces, "longest", ["events"]),
]

MACHINE_METHODS = {
    "threads": [], "status": ["thread"], "ready": [], "waits_for": ["thread"], "step": ["thread"],
    "choose": ["thread", "second"], "raised": ["thread"], "add": ["graph"], "tell": ["first", "second"],
    "given": ["index"], "graph": ["node"], "steps": [], "copy": [], "outcome": []}

METHODS = {
    Store: {
        "__init__": [], "variable": [], "integer": ["n"], "atom": ["a"], "name": ["a", "n"],
        "tuple_of": ["a", "parts"], "add": ["graph"], "unify": ["first", "second"], "would_unify": ["first", "second"],
        "representative": ["node"], "value": ["node"], "graph": ["node"], "size": [], "copy": []},
    Machine: {"__init__": ["program"], **MACHINE_METHODS},
    CodeMachine: {"__init__": ["code"], **MACHINE_METHODS},
    Space: {"__init__": ["program"], "ask": [], "commit": ["second"], "tell": ["index", "graph"], "trees": [],
            "outcome": [], "copy": []},
    Net: {"__init__": ["sites"], "make": ["site"], "know": ["site", "x"], "tell": ["site", "x", "graph"], "pending": [],
          "deliver": ["sender", "receiver"], "settle": ["schedule"], "knows": ["site", "x"], "value": ["site", "x"],
          "failed": ["site"], "copy": []},
    Team: {"__init__": ["programs"], "moves": [], "move": ["index"], "play": ["schedule"], "outcome": ["site"],
           "failed": ["site"], "copy": []},
}
MODULES = {
    Store: store, Machine: machine, CodeMachine: codemachine, Space: spaces, Net: sites, Team: teams}


def mutable_in(value):
    """The lists and dicts in a value."""
    found = [value] if isinstance(value, (list, dict)) else []
    if isinstance(value, dict):
        value = list(value.values())
    return found + [part for row in value for part in mutable_in(row)] if isinstance(value, (list, tuple)) else found


def played(team):
    try:
        return team.play([3, 1, 4])
    except TooMany:
        return "too many"


def answers(seed):
    """All answers about a drawn program."""
    program = drawn.program(seed, 14)
    found = [(), programs.uses(program[1]), programs.is_declarative(program)]
    for schedule in ([], [1, 2, 3], [5] * 30):
        found.append(schedules.outcome_by(program, schedule))
    one = Machine(program)
    found.append(schedules.run(one, [2, 1]))
    found.append([one.ready(), one.outcome(), one.steps(), [one.raised(k) for k in range(one.threads())]])
    space = Space(program)
    found.append([space.trees(), space.ask(), space.trees(), space.outcome()])
    code = codes.compiled(program)
    other = CodeMachine(code)
    found.append([codes.is_code(code), schedules.run(other, [3, 1]), other.ready(), other.outcome()])
    small = collecting.collected(one)
    found.append([collecting.needed(one), collecting.node_count(one), small.ready(), collecting.needed(small)])
    events = traces.trace(program, [2, 1])
    found.append([events, traces.longest(events), traces.causes(events, 0), traces.replay(program, events)])
    team = teams.Team([program, program])
    found.append([team.moves(), team.failed(0)])
    found.append([played(team), team.moves(), team.outcome(1), teams.together([program])])
    net = Net(2)
    net.make(0)
    net.tell(0, 0, (("tuple", "f", (0,)),))
    found.append([net.pending(), net.settle([seed]), net.value(1, 0)])
    for ask in (search.solutions, search.first_solution, search.shape):
        try:
            found.append(ask(program))
        except TooMany:
            found.append("too many")
    try:
        found.append(schedules.all_outcomes(program, 200))
    except TooMany:
        found.append("too many")
    return found


class Interface(unittest.TestCase):

    def test_functions(self):
        for module, name, arguments in FUNCTIONS:
            with self.subTest(name):
                function = vars(module)[name]
                self.assertTrue(inspect.isfunction(function))
                self.assertEqual(function.__module__, module.__name__)
                self.assertEqual(list(inspect.signature(function).parameters), arguments)

    def test_methods_stand_in_the_class_itself(self):
        for made, methods in METHODS.items():
            for name, arguments in methods.items():
                with self.subTest(name):
                    self.assertEqual(list(inspect.signature(vars(made)[name]).parameters), ["self"] + arguments)
            self.assertEqual(made.__module__, MODULES[made].__name__)
            self.assertIs(vars(MODULES[made])[made.__name__], made)

    def test_constants(self):
        for module, name, number in [(store, "MOST_STORE", 2000), (machine, "MOST_THREADS", 60),
                                     (search, "MOST_KNOTS", 200), (sites, "MOST_MAIL", 5000)]:
            self.assertEqual(vars(module)[name], number)
            # It is defined in that very file.
            self.assertIn(f"\n{name} = {number}\n", inspect.getsource(module))
        self.assertEqual(type(vars(programs)["BUILT_IN"]), tuple)

    def test_errors(self):
        for one in (Failed, BadProgram, NotReady, TooMany):
            self.assertTrue(issubclass(one, LeatworkError) and issubclass(one, ValueError))
            self.assertEqual(vars(errors)[one.__name__], one)
            for other in (Failed, BadProgram, NotReady, TooMany):
                self.assertEqual(issubclass(one, other), one is other)

    def test_kinds_of_copies(self):
        self.assertIs(type(Store().copy()), Store)
        self.assertIs(type(Machine(((), SKIP)).copy()), Machine)
        self.assertIs(type(collecting.collected(Machine(((), SKIP)))), Machine)
        self.assertIs(type(CodeMachine(((0, 0, (("end",),)),)).copy()), CodeMachine)
        self.assertIs(type(Space(((), SKIP)).copy()), Space)
        self.assertIs(type(Net(2).copy()), Net)
        self.assertIs(type(Team([((), SKIP)]).copy()), Team)


class Calls(unittest.TestCase):

    def test_no_answer_depends_on_earlier_calls(self):
        seeds = list(range(1200, 1240))
        there = [answers(seed) for seed in seeds]
        back = [answers(seed) for seed in seeds[::-1]]
        self.assertEqual(there, back[::-1])

    def test_no_result_shares_a_list_with_another_one(self):
        for seed in range(1240, 1250):
            first, second = mutable_in(answers(seed)), mutable_in(answers(seed))
            self.assertEqual(len({id(one) for one in first + second}), len(first) + len(second))

    def test_arguments_stay_as_they_are(self):
        program = drawn.program(1251, 14)
        text = repr(program)
        schedule, names = [3, 2, 1], {"A": "B"}
        schedules.outcome_by(program, schedule)
        machine = Machine(program)
        schedules.run(machine, schedule)
        codes.is_code(codes.compiled(program))
        Space(program).ask()
        search.replayed(program, (True, False))
        programs_of_a_team = [program, program]
        played(Team(programs_of_a_team))
        teams.together(programs_of_a_team[:1])
        self.assertEqual(programs_of_a_team, [program, program])
        events = traces.trace(program, schedule)
        kept = list(events)
        traces.replay(program, events)
        traces.causes(events, len(events) - 1)
        traces.longest(events)
        self.assertEqual(events, kept)
        before = (machine.outcome(), machine.steps(), collecting.needed(machine))
        schedules.run(collecting.collected(machine), schedule)
        collecting.needed(machine).clear()
        self.assertEqual((machine.outcome(), machine.steps(), collecting.needed(machine)), before)
        try:
            programs.renamed(program, names)
        except BadProgram:
            pass
        self.assertEqual((repr(program), schedule, names), (text, [3, 2, 1], {"A": "B"}))


if __name__ == "__main__":
    unittest.main()
