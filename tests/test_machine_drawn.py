"""Machines of drawn programs against the plainest machine, step by step."""

import random
import unittest

from leatwork.errors import Failed
from leatwork.machine import Machine
from leatwork.programs import check
from leatwork.errors import BadProgram
from tests import drawn
from tests.naive_machine import NaiveMachine
from tests.naive_store import CannotBe


def filling(machine, room):
    """Adds nodes until there is room for so many only."""
    size = machine.copy().add((("int", 1),))
    for _ in range(2000 - room - size):
        machine.add((("atom", "a"),))


def size_of(machine):
    return machine.copy().add((("int", 1),))


class Against(unittest.TestCase):

    def alike(self, machine, plain):
        self.assertEqual([machine.status(k) for k in range(machine.threads())], plain.statuses())
        self.assertEqual(machine.ready(), plain.ready())
        self.assertEqual([machine.waits_for(k) for k in range(machine.threads())],
                         [plain.waits_for(k) for k in range(machine.threads())])
        self.assertEqual(machine.steps(), plain.steps)

    def all_alike(self, machine, plain):
        self.alike(machine, plain)
        if len(plain.store.nodes) < 2000:
            self.assertEqual(size_of(machine), len(plain.store.nodes))
        for k in range(len(plain.store.nodes)):
            if k not in plain.store.fillers:
                self.assertEqual(machine.graph(k), plain.store.graph(k))
        for k, thread in enumerate(plain.threads):
            expected = None if thread["broken"] is None else plain.store.graph(thread["broken"])
            self.assertEqual(machine.raised(k), expected)
        self.assertEqual(machine.outcome(), plain.outcome())

    def one_run(self, program, chance, most, room=None):
        machine, plain = Machine(program), NaiveMachine(program, room)
        if room is not None:
            filling(machine, room)
        for turn in range(most):
            choosing = [k for k, status in enumerate(plain.statuses()) if status == "choosing"]
            if choosing and chance.randrange(2):
                k, second = chance.choice(choosing), chance.choice([True, False])
                machine.choose(k, second)
                plain.choose(k, second)
            elif plain.ready():
                k = chance.choice(plain.ready())
                machine.step(k)
                plain.step(k)
            elif not self.one_tell(machine, plain, chance):
                break
            self.alike(machine, plain)
            if turn % 16 == 0:
                self.all_alike(machine, plain)
                machine = machine.copy()
        self.all_alike(machine, plain)
        return machine, plain

    def one_tell(self, machine, plain, chance):
        nodes = [k for k in range(len(plain.store.nodes)) if k not in plain.store.fillers]
        pair = chance.choice(nodes), chance.choice(nodes)
        try:
            plain.tell(*pair)
        except CannotBe:
            with self.assertRaises(Failed):
                machine.tell(*pair)
            return False
        self.assertIsNone(machine.tell(*pair))
        return True

    def many_runs(self, seeds, size, most, room=False, **options):
        chance = random.Random(seeds[0])
        statuses, atoms = {}, {}
        for seed in seeds:
            program = drawn.program(seed, size, **options)
            try:
                check(program)
            except BadProgram:
                continue
            with self.subTest(seed=seed):
                machine, plain = self.one_run(program, chance, most, chance.randrange(12) if room else None)
                for status in plain.statuses():
                    statuses[status] = statuses.get(status, 0) + 1
                for thread in plain.threads:
                    if thread["broken"] is not None:
                        graph = plain.store.graph(thread["broken"])
                        atoms[graph] = atoms.get(graph, 0) + 1
        return statuses, atoms

    def test_small_programs(self):
        statuses, atoms = self.many_runs(range(10000, 10400), 8, 60)
        self.assertGreater(min(statuses.get(s, 0) for s in ("done", "broken", "waiting")), 50)
        self.assertIn((("atom", "failure"),), atoms)

    def test_larger_programs(self):
        statuses, atoms = self.many_runs(range(20000, 20200), 40, 120)
        for word in ("failure", "type", "arity"):
            self.assertIn((("atom", word),), atoms)
        self.assertGreater(statuses["done"], 100)

    def test_tame_programs(self):
        self.many_runs(range(30000, 30150), 30, 150, tame=True)

    def test_declarative_programs(self):
        self.many_runs(range(40000, 40150), 30, 150, declarative=True)

    def test_little_room(self):
        _, atoms = self.many_runs(range(50000, 50150), 30, 100, room=True, tame=True)
        self.assertGreater(atoms[(("atom", "memory"),)], 20)


if __name__ == "__main__":
    unittest.main()
