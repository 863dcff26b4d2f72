"""Machines against the plainest ones, step by step."""

import random

from leatwork.errors import Failed
from tests.naive_store import CannotBe


def filling(machine, room):
    """Adds nodes until there is room for so many only."""
    size = size_of(machine)
    for _ in range(2000 - room - size):
        machine.add((("atom", "a"),))


def size_of(machine):
    return machine.copy().add((("int", 1),))


class Against:
    """For a test case that has `both(what, room)`, which returns a machine and a plain one of the same."""

    def alike(self, machine, plain):
        self.assertEqual([machine.status(k) for k in range(machine.threads())], plain.statuses())
        self.assertEqual(machine.ready(), plain.ready())
        self.assertEqual([machine.waits_for(k) for k in range(machine.threads())],
                         [plain.waits_for(k) for k in range(machine.threads())])
        self.assertEqual(machine.steps(), plain.steps)

    def all_alike(self, machine, plain):
        self.alike(machine, plain)
        if len(plain.store.nodes) < 2000:
            self.assertEqual(size_of(machine), len(plain.store.nodes))
        for k in range(len(plain.store.nodes)):
            if k not in plain.store.fillers:
                self.assertEqual(machine.graph(k), plain.store.graph(k))
        for k, thread in enumerate(plain.threads):
            expected = None if thread["broken"] is None else plain.store.graph(thread["broken"])
            self.assertEqual(machine.raised(k), expected)
        self.assertEqual(machine.outcome(), plain.outcome())

    def one_run(self, what, chance, most, room=None):
        machine, plain = self.both(what, room)
        if room is not None:
            filling(machine, room)
        for turn in range(most):
            choosing = [k for k, status in enumerate(plain.statuses()) if status == "choosing"]
            if choosing and chance.randrange(2):
                k, second = chance.choice(choosing), chance.choice([True, False])
                machine.choose(k, second)
                plain.choose(k, second)
            elif plain.ready():
                k = chance.choice(plain.ready())
                machine.step(k)
                plain.step(k)
            elif not self.one_tell(machine, plain, chance):
                break
            self.alike(machine, plain)
            if turn % 16 == 0:
                self.all_alike(machine, plain)
                machine = machine.copy()
        self.all_alike(machine, plain)
        return machine, plain

    def one_tell(self, machine, plain, chance):
        nodes = [k for k in range(len(plain.store.nodes)) if k not in plain.store.fillers]
        pair = chance.choice(nodes), chance.choice(nodes)
        try:
            plain.tell(*pair)
        except CannotBe:
            with self.assertRaises(Failed):
                machine.tell(*pair)
            return False
        self.assertIsNone(machine.tell(*pair))
        return True

    def many_runs(self, rows, most, room=False):
        """Runs each of the pairs of a seed and what is run; returns how often which status, and which tree raised."""
        statuses, atoms = {}, {}
        for seed, what in rows:
            chance = random.Random(seed)
            with self.subTest(seed=seed):
                machine, plain = self.one_run(what, chance, most, chance.randrange(12) if room else None)
                for status in plain.statuses():
                    statuses[status] = statuses.get(status, 0) + 1
                for thread in plain.threads:
                    if thread["broken"] is not None:
                        graph = plain.store.graph(thread["broken"])
                        atoms[graph] = atoms.get(graph, 0) + 1
        return statuses, atoms
