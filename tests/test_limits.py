"""Where the threads, the stack or the store have no room left, and what is raised and caught (points 12, 13 and 16)."""

import unittest

from leatwork.machine import MOST_THREADS
from leatwork.schedules import run
from tests.build import SKIP, call, evenly, local, op, seq
from tests.machines import (
    MACHINE_ATOMS, bind, fill, make, on_stack, raised, room_of, row, size, statuses, steps, text, texts, until)


def is_there(index, expected):
    return lambda machine: text(machine, index) == expected


class Threads(unittest.TestCase):

    def with_threads(self, many, *statements, given="X Y Z G"):
        """A machine with so many threads, whose thread 0 is at the statements."""
        program = seq(evenly([("thread", SKIP)] * (many - 1)), ("atom", "G", "go"), *statements)
        machine = until(make(program, given), is_there(3, "go"))
        self.assertEqual(machine.threads(), many)
        return machine

    def test_thread(self):
        self.assertEqual(MOST_THREADS, 60)
        machine = self.with_threads(3, ("thread", ("bind", "X", "Y")), ("bind", "Y", "Z"))
        # The sequence comes first.
        steps(machine, 2)
        self.assertEqual((machine.threads(), statuses(machine)), (4, ["ready"] * 4))
        machine.step(3)
        self.assertEqual((machine.status(3), texts(machine, 0, 1, 2)), ("done", ["_0", "_0", "_2"]))

    def test_the_last_thread(self):
        for statement in (("thread", SKIP), ("need", "G", SKIP)):
            machine = self.with_threads(59, statement, statement, ("int", "X", 1))
            steps(machine, 2)
            self.assertEqual((machine.threads(), machine.status(0)), (60, "ready"))
            steps(machine, 2)
            self.assertEqual((machine.threads(), machine.status(0), raised(machine)), (60, "broken", "threads"))
            self.assertEqual(text(machine, 0), "_0")

    def test_caught(self):
        for statement in (("thread", SKIP), ("need", "G", SKIP)):
            machine = self.with_threads(60, ("try", statement, "E", ("bind", "E", "X")))
            steps(machine, 3)
            self.assertEqual((machine.threads(), machine.status(0), text(machine, 0)), (60, "done", "threads"))

    def test_done_and_broken_ones_count(self):
        machine = self.with_threads(60, ("thread", SKIP))
        for k in range(1, 60):
            machine.step(k)
        steps(machine, 1)
        self.assertEqual((statuses(machine), raised(machine)), (["broken"] + ["done"] * 59, "threads"))
        machine = make(seq(evenly([("thread", ("raise", "X"))] * 59), ("thread", SKIP)), "X")
        run(machine, list(range(200)))
        self.assertEqual((statuses(machine), raised(machine)), (["broken"] * 60, "threads"))

    def test_a_need_that_is_not_due_takes_no_thread(self):
        machine = self.with_threads(60, ("need", "X", SKIP))
        steps(machine, 1)
        self.assertEqual((machine.threads(), machine.status(0)), (60, "done"))

    def test_full_store_and_full_stack_are_no_matter_for_threads(self):
        machine = make(on_stack(199, ("thread", SKIP)), "L", L=row(199))
        until(machine, lambda m: m.threads() == 2)
        self.assertEqual(machine.status(0), "ready")
        machine = make(("thread", SKIP), room=0)
        self.assertEqual(steps(machine, 1).threads(), 2)


class Stack(unittest.TestCase):

    def at(self, many, statement, given="X Y L"):
        """A machine whose thread 0 is at the statement, with so many frames below it."""
        machine = make(on_stack(many, ("atom", "X", "go"), statement), given, L=row(many))
        until(machine, is_there(0, "go"))
        return machine

    def test_seq(self):
        machine = steps(self.at(198, seq(("int", "Y", 1), SKIP)), 2)
        self.assertEqual(text(machine, 1), "1")
        machine = self.at(197, seq(seq(("int", "Y", 1), SKIP), SKIP))
        steps(machine, 3)
        self.assertEqual(text(machine, 1), "1")
        machine = self.at(198, seq(seq(("int", "Y", 1), SKIP), SKIP))
        machine.step(0)
        self.assertEqual(machine.status(0), "ready")
        machine.step(0)
        self.assertEqual((machine.status(0), raised(machine), text(machine, 1)), ("broken", "stack", "_1"))

    def test_exactly_200_frames(self):
        # The row is as long as there are frames below what is reached then.
        for many, accepted in [(197, True), (198, True), (199, True), (200, False)]:
            machine = make(on_stack(many, ("atom", "X", "go")), "X Y L", L=row(many))
            run(machine, [])
            self.assertEqual(machine.status(0), "done" if accepted else "broken")
            self.assertEqual(raised(machine), None if accepted else "stack")
            self.assertEqual(text(machine, 0), "go" if accepted else "_0")

    def test_an_endless_stack(self):
        machine = make(local("P", ("proc", "P", (), seq(call("P"), SKIP)), call("P")), "X")
        # Of the 200 frames all but one are skips.
        taken = run(machine, [])
        self.assertEqual((machine.status(0), raised(machine)), ("broken", "stack"))
        self.assertEqual(taken, 3 + 2 * 199 + 2)

    def test_the_last_call_of_a_procedure_takes_no_frame(self):
        machine = make(local("P", ("proc", "P", (), seq(SKIP, call("P"))), call("P")), "X")
        self.assertEqual((run(machine, []), machine.status(0)), (3000, "ready"))

    def test_try(self):
        # A handler counts, and what it is above, too.
        caught = ("try", ("int", "Y", 1), "E", ("bind", "E", "Y"))
        machine = steps(self.at(197, caught), 2)
        self.assertEqual((machine.status(0), text(machine, 1)), ("ready", "1"))
        machine = self.at(198, caught)
        steps(machine, 2)
        self.assertEqual((machine.status(0), text(machine, 1)), ("ready", "1"))
        machine = make(on_stack(199, caught), "X Y L", L=row(199))
        run(machine, [])
        # Its own handler is not there yet.
        self.assertEqual((machine.status(0), raised(machine), text(machine, 1)), ("broken", "stack", "_1"))

    def test_caught(self):
        for inner in (seq(SKIP, SKIP), ("try", SKIP, "F", SKIP)):
            for many, found in [(195, None), (196, None), (197, None), (198, "stack"), (199, None)]:
                caught = ("try", inner, "E", ("bind", "E", "Y"))
                machine = make(on_stack(many, caught), "X Y L", L=row(many))
                run(machine, [])
                with self.subTest(inner=inner, many=many):
                    if many == 199:
                        self.assertEqual((machine.status(0), raised(machine)), ("broken", "stack"))
                    else:
                        self.assertEqual((machine.status(0), text(machine, 1)), ("done", found or "_1"))

    def test_a_handler_far_below_catches_it(self):
        body = seq(call("P"), SKIP)
        machine = make(local("P", ("proc", "P", (), body), ("try", call("P"), "E", ("bind", "E", "X"))), "X")
        run(machine, [])
        self.assertEqual((machine.status(0), text(machine, 0)), ("done", "stack"))

    def test_what_takes_no_further_frame(self):
        for statement in [
                SKIP, ("local", "A", SKIP), ("bind", "X", "X"), ("int", "Y", 1), ("if", "B", SKIP, SKIP),
                ("case", "X", ("atom", "go"), SKIP, SKIP), ("case", "X", ("tuple", "f", ("A",)), SKIP, SKIP),
                call("Q"), call("Wait", "X"), ("thread", seq(SKIP, SKIP)), ("need", "X", SKIP), ("proc", "Y", (), SKIP),
                op("==", "Y", "X", "X")]:
            program = seq(("proc", "Q", (), SKIP), ("atom", "B", "true"), on_stack(199, statement))
            machine = make(program, "X Y L Q B", L=row(199), X="go")
            run(machine, [])
            self.assertEqual((machine.status(0), raised(machine)), ("done", None), statement)

    def test_choose_takes_no_further_frame(self):
        machine = make(on_stack(199, ("choose", seq(SKIP, SKIP), ("int", "Y", 1))), "X Y L", L=row(199))
        run(machine, [])
        other = machine.copy()
        self.assertEqual(machine.status(0), "choosing")
        machine.choose(0, True)
        other.choose(0, False)
        run(machine, [])
        run(other, [])
        self.assertEqual((machine.status(0), text(machine, 1)), ("done", "1"))
        self.assertEqual(raised(other), "stack")


class Memory(unittest.TestCase):

    def test_nodes_at_the_beginning(self):
        for many in (0, 1, 12):
            machine = make(SKIP, " ".join(f"X{k}" for k in range(many)))
            self.assertEqual(size(machine), many + 16)
            self.assertEqual([machine.graph(k) for k in range(many)], [(("var", k),) for k in range(many)])
            self.assertEqual([machine.given(k) for k in range(many)], list(range(many)))
            self.assertEqual([machine.graph(many + k) for k in range(9)], [(("name", "builtin", k),) for k in range(9)])
            self.assertEqual([machine.graph(many + 9 + k) for k in range(7)], [(("atom", a),) for a in MACHINE_ATOMS])

    def test_2000_nodes(self):
        body = local("A B C D E F G H", call("P"))
        machine = make(local("P", ("proc", "P", (), body), call("P")), "X Y")
        run(machine, [])
        self.assertEqual((machine.status(0), raised(machine), room_of(machine)), ("broken", "memory", 0))

    def test_the_last_node(self):
        machine = make(seq(("int", "X", 1), ("int", "Y", 2)), room=1)
        steps(machine, 2)
        self.assertEqual((machine.status(0), texts(machine, 0, 1), room_of(machine)), ("ready", ["1", "_1"], 0))
        machine.step(0)
        self.assertEqual((raised(machine), texts(machine, 0, 1)), ("memory", ["1", "_1"]))

    def test_a_step_that_waits_comes_before_memory(self):
        machine = make(op("+", "X", "Y", "Y"), room=1)
        machine.step(0)
        bind(machine, 1, "1")
        machine.step(0)
        self.assertEqual((machine.status(0), raised(machine)), ("broken", "memory"))

    def test_a_full_store_goes_on(self):
        # What makes no node goes on: these are all of that kind.
        statement = seq(
            ("try", ("int", "X", 1), "E", ("bind", "E", "X")), ("bind", "Y", "Z"), ("thread", ("bind", "Z", "U")),
            ("need", "Y", SKIP), ("case", "X", ("atom", "memory"), SKIP, ("raise", "X")), call("Wait", "X"))
        machine = make(statement, "X Y Z U", room=0, U="5")
        run(machine, [])
        self.assertEqual((statuses(machine), texts(machine, 0, 1)), (["done"] * 3, ["memory", "5"]))

    def test_add_from_outside(self):
        machine = make(SKIP)
        fill(machine, 1)
        graph = (("tuple", "f", (1,)), ("int", 1))
        with self.assertRaises(ValueError):
            machine.add(graph)
        self.assertEqual(machine.add((("int", 1),)), 1999)


class Handlers(unittest.TestCase):

    def test_the_topmost_handler(self):
        inner = ("try", ("raise", "Y"), "E", ("tuple", "X", "inner", ("E",)))
        machine = make(("try", seq(inner, ("int", "Z", 1)), "F", ("tuple", "X", "outer", ("F",))), Y="7")
        run(machine, [])
        self.assertEqual((machine.status(0), texts(machine, 0, 2)), ("done", ["inner(7)", "1"]))

    def test_a_handler_is_gone_while_it_handles(self):
        inner = ("try", ("raise", "Y"), "E", ("raise", "Z"))
        machine = make(("try", inner, "E", ("bind", "E", "X")), Y="7", Z="8")
        run(machine, [])
        self.assertEqual((machine.status(0), text(machine, 0)), ("done", "8"))
        machine = make(inner, Y="7", Z="8")
        run(machine, [])
        self.assertEqual((machine.status(0), raised(machine)), ("broken", "8"))

    def test_a_handler_that_was_passed_is_gone(self):
        machine = make(seq(("try", SKIP, "E", ("int", "X", 1)), ("raise", "Y")), Y="7")
        # seq, try, skip and the handler itself
        steps(machine, 4)
        self.assertEqual(machine.status(0), "ready")
        machine.step(0)
        self.assertEqual((machine.status(0), raised(machine), text(machine, 0)), ("broken", "7", "_0"))

    def test_the_handler_alone_is_a_step(self):
        machine = make(("try", SKIP, "E", SKIP))
        steps(machine, 2)
        self.assertEqual(machine.status(0), "ready")
        machine.step(0)
        self.assertEqual((machine.status(0), machine.steps()), ("done", 3))

    def test_a_choose_below_a_handler_is_not_next(self):
        machine = make(seq(("try", SKIP, "E", SKIP), ("choose", SKIP, SKIP)))
        steps(machine, 3)
        self.assertEqual(machine.status(0), "ready")
        self.assertEqual(steps(machine, 1).status(0), "choosing")

    def test_frames_above_the_handler_are_taken_away(self):
        machine = make(("try", seq(seq(("raise", "Y"), ("int", "X", 1)), ("int", "X", 2)), "E", ("int", "Z", 3)), Y="7")
        run(machine, [])
        self.assertEqual((machine.status(0), texts(machine, 0, 2)), ("done", ["_0", "3"]))

    def test_the_caught_node_is_the_raised_one(self):
        machine = make(("try", ("raise", "Y"), "E", ("int", "E", 9)))
        run(machine, [])
        self.assertEqual(text(machine, 1), "9")

    def test_the_identifier_only_in_the_handler(self):
        machine = make(("try", seq(("bind", "X", "Y"), ("raise", "Z")), "X", ("int", "X", 1)))
        run(machine, [])
        self.assertEqual(texts(machine, 0, 1, 2), ["_0", "_0", "1"])

    def test_handlers_of_other_threads_and_callers(self):
        machine = make(("try", ("thread", ("raise", "X")), "E", SKIP))
        run(machine, [])
        self.assertEqual(statuses(machine), ["done", "broken"])
        called = local("P", ("proc", "P", (), ("raise", "Y")), ("try", call("P"), "E", ("bind", "X", "E")))
        machine = make(called, Y="5")
        run(machine, [])
        self.assertEqual((machine.status(0), text(machine, 0)), ("done", "5"))

    def test_a_broken_thread_leaves_the_others(self):
        machine = make(seq(("thread", ("int", "X", 1)), ("raise", "Y")))
        steps(machine, 3)
        self.assertEqual(statuses(machine), ["broken", "ready"])
        machine.step(1)
        self.assertEqual((statuses(machine), text(machine, 0)), (["broken", "done"], "1"))


if __name__ == "__main__":
    unittest.main()
