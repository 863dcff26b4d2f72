"""Triggers (point 14)."""

import unittest

from leatwork.errors import Failed
from leatwork.graphs import least
from leatwork.schedules import run
from tests.build import SKIP, call, evenly, local, op, seq
from tests.machines import bind, make, raised, statuses, steps, text, texts, until


def mark(name, number):
    return ("int", name, number)


class Need(unittest.TestCase):

    def test_bound_already(self):
        machine = steps(make(("need", "X", mark("Y", 1)), X="f(_1)"), 1)
        self.assertEqual((machine.threads(), statuses(machine)), (2, ["done", "ready"]))
        machine.step(1)
        self.assertEqual(text(machine, 1), "1")

    def test_waited_for_already(self):
        for waits in ("X", "U"):
            program = seq(("bind", "X", "U"), ("thread", call("Wait", waits)), ("need", "X", mark("Y", 1)))
            machine = steps(make(program, "U X Y"), 4)
            other = machine.copy()
            machine.step(1)
            self.assertEqual((machine.status(1), machine.threads()), ("waiting", 2))
            machine.step(0)
            self.assertEqual((machine.threads(), statuses(machine)), (3, ["done", "waiting", "ready"]))
            # The other way round a trigger is put, and started by the wait.
            other.step(0)
            self.assertEqual(other.threads(), 2)
            other.step(1)
            self.assertEqual((other.threads(), statuses(other)), (3, ["done", "waiting", "ready"]))

    def test_not_needed(self):
        machine = steps(make(seq(("need", "X", mark("Y", 1)), mark("Z", 2))), 3)
        self.assertEqual((machine.threads(), statuses(machine), texts(machine, 1, 2)), (1, ["done"], ["_1", "2"]))

    def test_it_is_no_wait(self):
        machine = steps(make(seq(("need", "X", SKIP), ("need", "X", SKIP))), 3)
        self.assertEqual((machine.threads(), statuses(machine)), (1, ["done"]))

    def test_the_nodes_of_its_identifiers(self):
        machine = steps(make(local("A", ("need", "X", seq(mark("A", 4), ("bind", "A", "Y"))), mark("X", 1))), 4)
        run(machine, [])
        self.assertEqual((statuses(machine), text(machine, 1)), (["done", "done"], "4"))


class Due(unittest.TestCase):

    def test_behind_a_step_that_binds(self):
        for value in [("int", "X", 1), ("tuple", "X", "f", ("Z",)), ("proc", "X", (), SKIP), ("bind", "X", "Z"),
                      call("NewCell", "Z", "X"), call("IsDet", "X", "X"), op("==", "X", "Z", "Z"),
                      call("Exchange", "C", "X", "Z")]:
            program = seq(call("NewCell", "Z", "C"), ("need", "X", mark("Y", 1)), value)
            machine = steps(make(program, "X Y Z C", Z="5"), 4)
            self.assertEqual(machine.threads(), 1)
            machine.step(0)
            self.assertEqual((machine.threads(), machine.status(1)), (2, "ready"), value)
            run(machine, [])
            self.assertEqual((statuses(machine), text(machine, 1)), (["done", "done"], "1"))

    def test_behind_a_step_that_waits(self):
        for statement in [call("Wait", "X"), ("if", "X", SKIP, SKIP), ("case", "X", ("int", 1), SKIP, SKIP),
                          call("X"), op("+", "Z", "X", "Z"), op("==", "Z", "X", "X"), call("Send", "X", "X")]:
            program = seq(("need", "X", seq(mark("X", 1), mark("Y", 1))), statement)
            machine = steps(make(program), 3)
            self.assertEqual((machine.status(0), machine.threads()), ("waiting", 2), statement)
            machine.step(1)
            machine.step(1)
            self.assertEqual((machine.status(0), machine.status(1), text(machine, 0)), ("ready", "ready", "1"))

    def test_only_once(self):
        machine = steps(make(seq(("need", "X", mark("Y", 1)), mark("X", 1), mark("Z", 1), SKIP)), 7)
        self.assertEqual((machine.threads(), machine.status(0)), (2, "done"))
        program = seq(("need", "X", SKIP), ("thread", call("Wait", "X")), ("thread", call("Wait", "X")), mark("X", 1))
        machine = steps(make(program), 6)
        for k, threads in [(1, 4), (2, 4), (0, 4)]:
            machine.step(k)
            self.assertEqual(machine.threads(), threads)

    def test_other_variables_are_no_matter(self):
        machine = steps(make(seq(("need", "X", SKIP), mark("Y", 1), call("Wait", "Z"))), 5)
        self.assertEqual((machine.threads(), machine.status(0)), (1, "waiting"))

    def test_a_part_that_is_bound(self):
        machine = steps(make(seq(("tuple", "X", "f", ("Y",)), ("need", "Y", SKIP), ("bind", "X", "Z"))), 5)
        self.assertEqual(machine.threads(), 1)
        bind(machine, 2, "f(3)")
        self.assertEqual((machine.threads(), text(machine, 1)), (2, "3"))

    def test_a_failure_starts_nothing(self):
        program = seq(("need", "X", SKIP), ("try", ("bind", "Y", "Z"), "E", SKIP))
        machine = steps(make(program, Y="f(1 _1)", Z="f(_1 2)"), 4)
        self.assertEqual(machine.threads(), 1)
        program = seq(("tuple", "Y", "f", ("X", "Z")), ("need", "X", SKIP), ("bind", "Y", "U"))
        machine = steps(make(program, "X Y Z U", Z="2", U="f(1 1)"), 5)
        self.assertEqual((machine.threads(), raised(machine), text(machine, 0)), (1, "failure", "_0"))

    def test_several_in_the_order_in_which_they_were_put(self):
        program = seq(("tuple", "T", "f", ("X", "Y", "X")), ("need", "Y", mark("A", 1)), ("need", "X", mark("B", 1)),
                      ("need", "Y", mark("C", 1)), ("need", "Z", mark("D", 1)), ("bind", "T", "U"))
        machine = steps(make(program, "X Y Z A B C D T U", U="f(5 6 5)"), 11)
        self.assertEqual((machine.threads(), statuses(machine)), (4, ["done", "ready", "ready", "ready"]))
        for thread, index in [(1, 3), (2, 4), (3, 5)]:
            self.assertEqual(text(machine, index), f"_{index}")
            machine.step(thread)
            self.assertEqual(text(machine, index), "1")
        bind(machine, 2, "1")
        machine.step(4)
        self.assertEqual(text(machine, 6), "1")

    def test_variables_that_are_made_equal(self):
        for pair in (("X", "Y"), ("Y", "X")):
            program = seq(("need", "Y", mark("A", 1)), ("need", "X", mark("B", 1)), ("bind", *pair))
            machine = steps(make(program, "X Y Z A B"), 5)
            self.assertEqual((machine.threads(), machine.status(0)), (1, "done"))
            for index in (0, 1):
                other = machine.copy()
                bind(other, index, "7")
                self.assertEqual(other.threads(), 3)
                other.step(1)
                self.assertEqual(texts(other, 3, 4), ["1", "_4"])

    def test_made_equal_to_one_that_is_waited_for(self):
        program = seq(("thread", call("Wait", "Y")), ("need", "X", SKIP), ("bind", "X", "Y"))
        for first in (1, 0):
            machine = steps(make(program), 2)
            if first:
                machine.step(1)
                steps(machine, 2)
                self.assertEqual(machine.threads(), 2)
                machine.step(0)
            else:
                steps(machine, 3)
                self.assertEqual(machine.threads(), 2)
                machine.step(1)
            self.assertEqual((machine.threads(), machine.status(1)), (3, "waiting"))

    def test_a_started_thread_may_be_choosing(self):
        machine = steps(make(seq(("need", "X", ("choose", SKIP, SKIP)), mark("X", 1))), 3)
        self.assertEqual(statuses(machine), ["done", "choosing"])


class Tell(unittest.TestCase):

    def test_behind_tell(self):
        machine = steps(make(seq(("need", "X", mark("Y", 1)), ("need", "Y", mark("Z", 2)))), 3)
        node = machine.add((("tuple", "f", (1,)), ("var", 0)))
        self.assertEqual(machine.threads(), 1)
        self.assertIsNone(machine.tell(machine.given(0), node))
        self.assertEqual((machine.threads(), machine.steps()), (2, 3))
        run(machine, [])
        self.assertEqual((machine.threads(), texts(machine, 1, 2)), (3, ["1", "2"]))

    def test_two_variables(self):
        machine = steps(make(seq(("need", "X", SKIP), call("Wait", "Y"))), 3)
        self.assertEqual(machine.threads(), 1)
        machine.tell(0, 1)
        self.assertEqual((machine.threads(), machine.status(0), machine.waits_for(0)), (2, "waiting", 0))

    def test_failed(self):
        machine = steps(make(seq(("tuple", "Z", "f", ("X", "Y")), ("need", "X", SKIP), SKIP), Y="1"), 4)
        node = machine.add((("tuple", "f", (1, 2)), ("int", 5), ("int", 2)))
        with self.assertRaises(Failed):
            machine.tell(2, node)
        self.assertEqual((machine.threads(), texts(machine, 0, 2)), (1, ["_0", "f(_0 1)"]))


class NoRoom(unittest.TestCase):

    def full(self, many, *statements, given="X Y Z G"):
        """A machine with so many threads, whose thread 0 is at the last statement."""
        program = seq(evenly([("thread", SKIP)] * (many - 1)), *statements[:-1], ("atom", "G", "go"), statements[-1])
        return until(make(program, given), lambda machine: text(machine, 3) == "go")

    def test_bound_without_room(self):
        for many, made, broken in [(58, 60, None), (59, 60, "threads"), (60, 60, "threads")]:
            machine = self.full(many, ("need", "X", SKIP), ("need", "X", mark("Y", 1)), seq(mark("X", 1), SKIP))
            machine.step(0)
            machine.step(0)
            with self.subTest(many=many):
                self.assertEqual((machine.threads(), raised(machine), text(machine, 0)), (made, broken, "1"))
                self.assertEqual(machine.status(0), "broken" if broken else "ready")
                # What found no room is gone.
                run(machine, [])
                self.assertEqual(text(machine, 1), "1" if many == 58 else "_1")

    def test_whatever_handlers_it_has(self):
        machine = self.full(60, ("need", "X", SKIP), ("try", mark("X", 1), "E", mark("Y", 1)))
        steps(machine, 2)
        self.assertEqual((machine.status(0), raised(machine), texts(machine, 0, 1)), ("broken", "threads", ["1", "_1"]))

    def test_a_step_that_waits(self):
        machine = self.full(60, ("need", "X", SKIP), ("try", call("Wait", "X"), "E", mark("Y", 1)))
        steps(machine, 2)
        self.assertEqual((machine.status(0), raised(machine), machine.waits_for(0)), ("broken", "threads", None))

    def test_the_thread_whose_step_it_was(self):
        machine = self.full(59, ("thread", ("try", mark("X", 1), "E", SKIP)), ("need", "X", SKIP), SKIP)
        steps(machine, 1)
        steps(machine, 2, 59)
        self.assertEqual((machine.status(0), machine.status(59), raised(machine, 59)), ("done", "broken", "threads"))

    def test_the_last_thread_that_waits(self):
        # It is broken also if its step has ended it.
        machine = self.full(60, ("need", "X", SKIP), mark("X", 1))
        steps(machine, 1)
        self.assertEqual((machine.status(0), raised(machine)), ("broken", "threads"))

    def test_tell_without_room(self):
        machine = self.full(59, ("need", "X", mark("Y", 1)), ("need", "X", mark("Z", 1)), SKIP)
        steps(machine, 1)
        bind(machine, 0, "5")
        self.assertEqual((machine.threads(), raised(machine), machine.status(0)), (60, None, "done"))
        run(machine, [])
        self.assertEqual(machine.outcome()[0][:3], ("5", "1", "_0"))
        self.assertEqual(machine.outcome()[1], ())

    def test_a_need_without_room_is_no_trigger(self):
        machine = self.full(60, ("try", ("need", "G", SKIP), "E", ("bind", "E", "X")))
        steps(machine, 3)
        self.assertEqual((machine.status(0), least(machine.graph(0))), ("done", (("atom", "threads"),)))


if __name__ == "__main__":
    unittest.main()
