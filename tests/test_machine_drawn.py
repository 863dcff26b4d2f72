"""Machines of drawn programs against the plainest machine, step by step."""

import unittest

from leatwork.machine import Machine
from tests import drawn
from tests.against import Against
from tests.agreeing import is_good
from tests.naive_machine import NaiveMachine


def rows(seeds, size, **options):
    """The pairs of a seed and the program that is drawn by it, if it is good."""
    found = [(seed, drawn.program(seed, size, **options)) for seed in seeds]
    return [(seed, program) for seed, program in found if is_good(program)]


class Programs(Against, unittest.TestCase):

    def both(self, program, room):
        return Machine(program), NaiveMachine(program, room)

    def test_small_programs(self):
        statuses, atoms = self.many_runs(rows(range(10000, 10400), 8), 60)
        self.assertGreater(min(statuses.get(s, 0) for s in ("done", "broken", "waiting")), 50)
        self.assertIn((("atom", "failure"),), atoms)

    def test_larger_programs(self):
        statuses, atoms = self.many_runs(rows(range(20000, 20200), 40), 120)
        for word in ("failure", "type", "arity"):
            self.assertIn((("atom", word),), atoms)
        self.assertGreater(statuses["done"], 100)

    def test_tame_programs(self):
        self.many_runs(rows(range(30000, 30150), 30, tame=True), 150)

    def test_declarative_programs(self):
        self.many_runs(rows(range(40000, 40150), 30, declarative=True), 150)

    def test_little_room(self):
        _, atoms = self.many_runs(rows(range(50000, 50150), 30, tame=True), 100, room=True)
        self.assertGreater(atoms[(("atom", "memory"),)], 20)


if __name__ == "__main__":
    unittest.main()
