"""The names, arguments and places that the interface of DOC.md lists."""

import inspect
import unittest

from leatwork import errors, machine, programs, schedules, store
from leatwork.errors import BadProgram, Failed, LeatworkError, NotReady, TooMany
from leatwork.machine import Machine
from leatwork.store import Store
from tests import drawn
from tests.build import SKIP

FUNCTIONS = [
    (programs, "check", ["program"]), (programs, "uses", ["statement"]), (programs, "is_declarative", ["program"]),
    (programs, "renamed", ["program", "names"]), (schedules, "run", ["machine", "schedule"]),
    (schedules, "outcome_by", ["program", "schedule"]), (schedules, "all_outcomes", ["program", "most"]),
]

METHODS = {
    Store: {
        "__init__": [], "variable": [], "integer": ["n"], "atom": ["a"], "name": ["a", "n"],
        "tuple_of": ["a", "parts"], "add": ["graph"], "unify": ["first", "second"], "would_unify": ["first", "second"],
        "representative": ["node"], "value": ["node"], "graph": ["node"], "size": [], "copy": []},
    Machine: {
        "__init__": ["program"], "threads": [], "status": ["thread"], "ready": [], "waits_for": ["thread"],
        "step": ["thread"], "choose": ["thread", "second"], "raised": ["thread"], "add": ["graph"],
        "tell": ["first", "second"], "given": ["index"], "graph": ["node"], "steps": [], "copy": [], "outcome": []},
}


def mutable_in(value):
    """The lists and dicts in a value."""
    found = [value] if isinstance(value, (list, dict)) else []
    if isinstance(value, dict):
        value = list(value.values())
    return found + [part for row in value for part in mutable_in(row)] if isinstance(value, (list, tuple)) else found


def answers(seed):
    """All answers about a drawn program."""
    program = drawn.program(seed, 14)
    found = [(), programs.uses(program[1]), programs.is_declarative(program)]
    for schedule in ([], [1, 2, 3], [5] * 30):
        found.append(schedules.outcome_by(program, schedule))
    one = Machine(program)
    found.append(schedules.run(one, [2, 1]))
    found.append([one.ready(), one.outcome(), one.steps(), [one.raised(k) for k in range(one.threads())]])
    try:
        found.append(schedules.all_outcomes(program, 200))
    except TooMany:
        found.append("too many")
    return found


class Interface(unittest.TestCase):

    def test_functions(self):
        for module, name, arguments in FUNCTIONS:
            with self.subTest(name):
                function = vars(module)[name]
                self.assertTrue(inspect.isfunction(function))
                self.assertEqual(function.__module__, module.__name__)
                self.assertEqual(list(inspect.signature(function).parameters), arguments)

    def test_methods_stand_in_the_class_itself(self):
        for made, methods in METHODS.items():
            for name, arguments in methods.items():
                with self.subTest(name):
                    self.assertEqual(list(inspect.signature(vars(made)[name]).parameters), ["self"] + arguments)
        self.assertEqual((Store.__module__, Machine.__module__), ("leatwork.store", "leatwork.machine"))

    def test_constants(self):
        self.assertEqual((vars(store)["MOST_STORE"], vars(machine)["MOST_THREADS"]), (2000, 60))
        self.assertEqual(type(vars(programs)["BUILT_IN"]), tuple)

    def test_errors(self):
        for one in (Failed, BadProgram, NotReady, TooMany):
            self.assertTrue(issubclass(one, LeatworkError) and issubclass(one, ValueError))
            self.assertEqual(vars(errors)[one.__name__], one)
            for other in (Failed, BadProgram, NotReady, TooMany):
                self.assertEqual(issubclass(one, other), one is other)

    def test_kinds_of_copies(self):
        self.assertIs(type(Store().copy()), Store)
        self.assertIs(type(Machine(((), SKIP)).copy()), Machine)


class Calls(unittest.TestCase):

    def test_no_answer_depends_on_earlier_calls(self):
        seeds = list(range(1200, 1240))
        there = [answers(seed) for seed in seeds]
        back = [answers(seed) for seed in seeds[::-1]]
        self.assertEqual(there, back[::-1])

    def test_no_result_shares_a_list_with_another_one(self):
        for seed in range(1240, 1250):
            first, second = mutable_in(answers(seed)), mutable_in(answers(seed))
            self.assertEqual(len({id(one) for one in first + second}), len(first) + len(second))

    def test_arguments_stay_as_they_are(self):
        program = drawn.program(1251, 14)
        text = repr(program)
        schedule, names = [3, 2, 1], {"A": "B"}
        schedules.outcome_by(program, schedule)
        schedules.run(Machine(program), schedule)
        try:
            programs.renamed(program, names)
        except BadProgram:
            pass
        self.assertEqual((repr(program), schedule, names), (text, [3, 2, 1], {"A": "B"}))


if __name__ == "__main__":
    unittest.main()
