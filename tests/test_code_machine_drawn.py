"""Code machines of drawn code, and of compiled programs, against the plainest code machine, step by step."""

import unittest

from leatwork.codemachine import CodeMachine
from leatwork.codes import compiled, is_code
from tests import agreeing, drawn_code
from tests.against import Against
from tests.naive_code import NaiveCodeMachine
from tests.test_machine_drawn import rows


def compiled_rows(found):
    return [(seed, compiled(program)) for seed, program in found]


def code_rows(seeds, size):
    return [(seed, drawn_code.code(seed, size)) for seed in seeds]


class Codes(Against, unittest.TestCase):

    def both(self, code, room):
        self.assertIs(is_code(code), True)
        return CodeMachine(code), NaiveCodeMachine(code, room)

    def test_small_code(self):
        statuses, atoms = self.many_runs(code_rows(range(1000, 1300), 8), 80)
        self.assertGreater(min(statuses.get(s, 0) for s in ("done", "broken", "waiting")), 50)

    def test_larger_code(self):
        statuses, atoms = self.many_runs(code_rows(range(2000, 2200), 25), 200)
        for word in ("failure", "type", "arity"):
            self.assertIn((("atom", word),), atoms)
        self.assertGreater(statuses["done"], 20)
        self.assertGreater(statuses["choosing"], 2)

    def test_little_room(self):
        _, atoms = self.many_runs(code_rows(range(3000, 3150), 20), 100, room=True)
        self.assertGreater(atoms[(("atom", "memory"),)], 20)

    def test_compiled_programs(self):
        self.many_runs(compiled_rows(rows(range(4000, 4100), 20)), 120)
        self.many_runs(compiled_rows(rows(range(4100, 4150), 25, tame=True)), 150, room=True)

    def test_compiled_programs_that_agree(self):
        self.many_runs(compiled_rows(list(enumerate(agreeing.programs(range(4200, 4260), 20)))), 150)


if __name__ == "__main__":
    unittest.main()
