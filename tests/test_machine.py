"""What a machine says of itself, and what is done to it from outside (points 12, 13 and 19)."""

import unittest

from leatwork.errors import Failed, NotReady, TooMany
from leatwork.machine import Machine
from leatwork.schedules import run
from leatwork.texts import read_graph
from tests import shapes
from tests.build import SKIP, call, local, op, seq
from tests.machines import bind, make, raised, size, statuses, steps, text, texts

CHOICE = ("choose", ("int", "X", 1), ("int", "X", 2))


def seen(machine):
    """All that a machine says of itself."""
    nodes = range(size(machine))
    return (statuses(machine), machine.ready(), [machine.waits_for(k) for k in range(machine.threads())],
            [machine.raised(k) for k in range(machine.threads())], [machine.graph(k) for k in nodes],
            machine.steps(), machine.outcome())


class Beginning(unittest.TestCase):

    def test_thread_0(self):
        machine = make(SKIP)
        self.assertEqual((machine.threads(), machine.ready(), machine.steps()), (1, [0], 0))
        self.assertEqual((machine.status(0), machine.waits_for(0), machine.raised(0)), ("ready", None, None))

    def test_threads_are_numbered_as_they_are_made(self):
        machine = make(seq(("thread", ("thread", ("int", "X", 1))), ("thread", ("int", "Y", 2))))
        steps(machine, 2)
        machine.step(1)
        self.assertEqual((machine.threads(), statuses(machine)), (3, ["ready", "done", "ready"]))
        machine.step(2)
        self.assertEqual(texts(machine, 0, 1), ["1", "_1"])
        machine.step(0)
        machine.step(3)
        self.assertEqual((machine.ready(), text(machine, 1)), ([], "2"))

    def test_given_variables(self):
        for many in (0, 1, 12):
            names = tuple(f"X{k}" for k in range(many))
            machine = Machine((names, SKIP))
            self.assertEqual([machine.given(k) for k in range(many)], list(range(many)))

    def test_built_in_procedures_are_known(self):
        names = ("Wait", "IsDet", "NewCell", "Exchange", "NewPort", "Send", "Label", "Width", "Part")
        for k, name in enumerate(names):
            machine = steps(make(("bind", "X", name)), 1)
            self.assertEqual(machine.graph(0), (("name", "builtin", k),))

    def test_given_variables_are_no_matter_for_each_other(self):
        self.assertEqual(texts(make(SKIP), 0, 1, 2), ["_0", "_1", "_2"])


class Statuses(unittest.TestCase):

    def test_waiting_and_ready_again(self):
        machine = steps(make(op("+", "X", "Y", "Z")), 1)
        self.assertEqual((machine.status(0), machine.ready(), machine.waits_for(0)), ("waiting", [], 1))
        with self.assertRaises(NotReady):
            machine.step(0)
        bind(machine, 1, "3")
        self.assertEqual((machine.status(0), machine.waits_for(0)), ("ready", None))
        machine.step(0)
        self.assertEqual((machine.status(0), machine.waits_for(0), machine.steps()), ("waiting", 2, 2))
        bind(machine, 2, "4")
        machine.step(0)
        self.assertEqual((machine.status(0), text(machine, 0), machine.steps()), ("done", "7", 3))

    def test_the_representative_that_is_waited_for(self):
        machine = steps(make(call("Wait", "Z")), 1)
        self.assertEqual(machine.waits_for(0), 2)
        machine.tell(2, 1)
        self.assertEqual((machine.status(0), machine.waits_for(0)), ("waiting", 1))
        machine.tell(0, 1)
        self.assertEqual(machine.waits_for(0), 0)
        machine.tell(machine.add((("var", 5),)), 0)
        self.assertEqual(machine.waits_for(0), 0)
        bind(machine, 1, "7")
        self.assertEqual((machine.status(0), machine.waits_for(0)), ("ready", None))

    def test_done_and_broken(self):
        machine = make(SKIP)
        machine.step(0)
        self.assertEqual((machine.status(0), machine.ready(), machine.raised(0)), ("done", [], None))
        with self.assertRaises(NotReady):
            machine.step(0)
        machine = steps(make(seq(("raise", "X"), SKIP)), 2)
        self.assertEqual((machine.status(0), machine.ready(), machine.raised(0)), ("broken", [], (("var", 0),)))
        with self.assertRaises(NotReady):
            machine.step(0)

    def test_not_ready_changes_nothing(self):
        for statement, taken in [(SKIP, 1), (("raise", "X"), 1), (call("Wait", "X"), 1), (CHOICE, 0)]:
            machine = steps(make(statement), taken)
            before = seen(machine)
            with self.assertRaises(NotReady):
                machine.step(0)
            self.assertEqual(seen(machine), before)

    def test_a_thread_that_is_not_there_is_not_ready(self):
        for statement in (SKIP, CHOICE):
            machine = make(statement)
            before = seen(machine)
            for thread in (-1, 1, 2, 60, 1000):
                with self.assertRaises(NotReady):
                    machine.step(thread)
                for second in (True, False):
                    with self.assertRaises(NotReady):
                        machine.choose(thread, second)
            self.assertEqual(seen(machine), before)

    def test_waiting_is_lost_by_a_step_that_goes_on(self):
        machine = steps(make(seq(call("Wait", "X"), SKIP)), 2)
        bind(machine, 0, "1")
        steps(machine, 2)
        self.assertEqual((machine.status(0), machine.waits_for(0)), ("done", None))


class Choose(unittest.TestCase):

    def test_both_ways(self):
        for second, expected in [(False, "1"), (True, "2")]:
            machine = make(CHOICE)
            self.assertEqual((machine.status(0), machine.ready(), machine.waits_for(0)), ("choosing", [], None))
            self.assertIsNone(machine.choose(0, second))
            self.assertEqual((machine.status(0), machine.steps(), text(machine, 0)), ("ready", 0, "_0"))
            machine.step(0)
            self.assertEqual((machine.status(0), machine.steps(), text(machine, 0)), ("done", 1, expected))

    def test_a_choose_within_a_choose(self):
        machine = make(seq(("choose", CHOICE, ("choose", SKIP, ("int", "X", 4))), ("int", "Y", 5)))
        machine.step(0)
        self.assertEqual(machine.status(0), "choosing")
        machine.choose(0, True)
        self.assertEqual(machine.status(0), "choosing")
        machine.choose(0, True)
        steps(machine, 2)
        self.assertEqual((machine.status(0), texts(machine, 0, 1)), ("done", ["4", "5"]))

    def test_the_identifiers_are_known_there(self):
        machine = make(local("A", ("int", "A", 7), ("choose", SKIP, ("bind", "A", "X"))))
        steps(machine, 3)
        machine.choose(0, True)
        machine.step(0)
        self.assertEqual(text(machine, 0), "7")

    def test_not_ready(self):
        for statement, taken in [(SKIP, 0), (SKIP, 1), (("raise", "X"), 1), (call("Wait", "X"), 1)]:
            machine = steps(make(statement), taken)
            before = seen(machine)
            for second in (True, False):
                with self.assertRaises(NotReady):
                    machine.choose(0, second)
            self.assertEqual(seen(machine), before)

    def test_the_thread_that_chooses(self):
        machine = make(seq(("thread", ("choose", SKIP, ("int", "Y", 3))), CHOICE))
        steps(machine, 2)
        self.assertEqual(statuses(machine), ["choosing", "choosing"])
        machine.choose(1, True)
        self.assertEqual(statuses(machine), ["choosing", "ready"])
        machine.step(1)
        self.assertEqual(texts(machine, 0, 1), ["_0", "3"])


class Outside(unittest.TestCase):

    def test_add_and_graph(self):
        machine = make(SKIP)
        graph = (("tuple", "f", (1, 2, 0)), ("var", 9), ("name", "cell", 4))
        self.assertEqual(machine.add(graph), 19)
        self.assertEqual(machine.graph(19), (("tuple", "f", (1, 2, 0)), ("var", 20), ("name", "cell", 4)))
        self.assertEqual(machine.add(graph), 22)
        self.assertEqual(machine.graph(22), (("tuple", "f", (1, 2, 0)), ("var", 23), ("name", "cell", 4)))

    def test_tell(self):
        machine = make(SKIP)
        self.assertIsNone(machine.tell(2, 0))
        self.assertEqual(texts(machine, 0, 1, 2), ["_0", "_1", "_0"])
        node = machine.add((("tuple", "f", (1, 1)), ("var", 3)))
        self.assertIsNone(machine.tell(node, 2))
        machine.tell(1, node + 1)
        self.assertEqual(texts(machine, 0, 1), ["f(_1 _1)", "_1"])
        self.assertEqual(machine.steps(), 0)
        before = seen(machine)
        other = machine.copy().add((("tuple", "f", (1, 2)), ("int", 1), ("int", 2)))
        machine.add((("tuple", "f", (1, 2)), ("int", 1), ("int", 2)))
        for pair in [(other, 0), (0, other), (machine.given(0), 5)]:
            with self.assertRaises(Failed):
                machine.tell(*pair)
        self.assertEqual(texts(machine, 0, 1, 2), ["f(_1 _1)", "_1", "f(_1 _1)"])
        self.assertEqual(seen(machine)[0], before[0])

    def test_raised_too_many(self):
        machine = make(("raise", "X"))
        machine.step(0)
        top = machine.add(shapes.row(400))
        machine.tell(0, machine.add((("tuple", "g", (1, 2)), ("var", 0), ("var", 1))))
        machine.tell(top + 401, top)
        for ask in (lambda: machine.raised(0), lambda: machine.graph(0), machine.outcome):
            with self.assertRaises(TooMany):
                ask()

    def test_names_from_outside_stand_for_what_the_machine_has(self):
        program = seq(("proc", "Y", ("A",), ("int", "A", 7)), call("Wait", "X"), call("X", "Z"))
        machine = steps(make(program), 5 - 1)
        bind(machine, 0, "<proc 0>")
        run(machine, [])
        self.assertEqual((machine.status(0), texts(machine, 0, 1, 2)), ("done", ["<proc 0>", "<proc 0>", "7"]))


class Outcome(unittest.TestCase):

    def outcome(self, statement, given="X Y Z", **values):
        machine = make(statement, given, **values)
        run(machine, [])
        return machine.outcome()

    def test_texts(self):
        self.assertEqual(self.outcome(SKIP, ""), ((), ()))
        self.assertEqual(self.outcome(SKIP, "X", X="f(1 a)"), (("f(1 a)",), ()))
        self.assertEqual(self.outcome(SKIP), (("_0", "_1", "_2"), ()))

    def test_variables_are_numbered_as_they_are_met(self):
        self.assertEqual(self.outcome(("bind", "Y", "Z")), (("_0", "_1", "_1"), ()))
        self.assertEqual(self.outcome(("tuple", "X", "f", ("Z", "Y", "Z"))), (("f(_0 _1 _0)", "_1", "_0"), ()))
        self.assertEqual(self.outcome(SKIP, X="f(_3 g(_2 _3) _1)", Y="h(_9)"),
                         (("f(_0 g(_1 _0) _2)", "h(_3)", "_4"), ()))
        self.assertEqual(self.outcome(("tuple", "X", "f", ("Z", "X", "Y"))), (("0=f(_0 @0 _1)", "_1", "_0"), ()))

    def test_names_are_numbered_by_their_kind(self):
        made = seq(call("NewCell", "Y", "A"), call("NewCell", "Y", "B"), call("NewPort", "Y", "C"),
                   ("proc", "D", (), SKIP), ("proc", "E", (), SKIP), call("NewPort", "Y", "F"),
                   ("tuple", "X", "f", ("F", "B", "E", "A", "C", "D")))
        program = seq(local("A B C D E F", made))
        self.assertEqual(self.outcome(program, "X Y"), (
            ("f(<port 0> <cell 0> <proc 0> <cell 1> <port 1> <proc 1>)", "_0"), ()))

    def test_built_in_names_stay(self):
        statement = seq(("tuple", "X", "f", ("Part", "Wait", "Y", "Width")), call("NewCell", "X", "Y"))
        self.assertEqual(self.outcome(statement), ((
            "f(<builtin 8> <builtin 0> <cell 0> <builtin 7>)", "<cell 0>", "_0"), ()))

    def test_only_nine_names_are_built_in(self):
        self.assertEqual(self.outcome(SKIP, X="<builtin 9>", Y="<builtin 8>", Z="<other 7>"),
                         (("<builtin 0>", "<builtin 8>", "<other 0>"), ()))

    def test_numbers_in_an_infinite_tree_are_those_of_its_least_graph(self):
        self.assertEqual(self.outcome(SKIP, X="f(_1 2=g(@2 _5))"), (("f(_0 2=g(@2 _1))", "_2", "_3"), ()))

    def test_counts(self):
        program = seq(("thread", call("Wait", "X")), ("thread", ("raise", "X")), ("thread", CHOICE), ("thread", SKIP),
                      ("thread", call("Wait", "Y")), ("thread", ("choose", SKIP, SKIP)))
        machine = make(program)
        run(machine, [])
        self.assertEqual(machine.outcome(), (("_0", "_1", "_2"), (("broken", 1), ("choosing", 2), ("waiting", 2))))
        self.assertEqual(make(program).outcome()[1], (("ready", 1),))
        machine = steps(make(program), 3)
        self.assertEqual(machine.outcome()[1], (("ready", 2),))

    def test_too_many(self):
        machine = make(SKIP)
        node = machine.add((("atom", "aaaaaaaaaaaa"),))
        for _ in range(11):
            top = machine.add((("tuple", "f", (1, 2)), ("var", 0), ("var", 1)))
            machine.tell(top + 1, node)
            machine.tell(top + 2, node)
            node = top
        machine.tell(1, node)
        # Few nodes, but a long text.
        self.assertEqual(len(machine.graph(1)), 12)
        with self.assertRaises(TooMany):
            machine.outcome()

    def test_one_after_the_other(self):
        self.assertEqual(self.outcome(SKIP, "A B C", A="1", B="g(_1)", C="<cell 9>"),
                         (("1", "g(_0)", "<cell 0>"), ()))

    def test_it_changes_nothing(self):
        machine = make(SKIP, X="f(_1 <cell 4>)")
        machine.outcome()
        self.assertEqual(machine.graph(0), read_graph("f(_20 <cell 4>)"))


class Copies(unittest.TestCase):

    PROGRAM = seq(
        ("need", "Z", ("int", "Y", 1)), call("NewCell", "X", "C"), call("NewPort", "P", "Q"),
        ("proc", "F", ("A",), ("thread", ("bind", "A", "X"))),
        ("try", seq(call("Wait", "X"), call("Exchange", "C", "Y", "Z"), call("Send", "Q", "X"), call("F", "U"),
                    ("raise", "X")), "E", CHOICE))

    def part_way(self):
        return steps(make(self.PROGRAM, "X Y Z U C P Q F"), 11)

    def ended(self, machine, value, second):
        bind(machine, 0, value)
        run(machine, [])
        machine.choose(0, second)
        run(machine, [])
        return machine.outcome()

    def test_both_go_on_by_themselves(self):
        machine = self.part_way()
        self.assertEqual(machine.status(0), "waiting")
        before = seen(machine)
        other, third = machine.copy(), machine.copy()
        self.assertEqual(seen(other), before)
        one = self.ended(machine, "1", False)
        self.assertEqual(seen(other), before)
        two = self.ended(other, "2", True)
        self.assertEqual((one[0][0], two[0][0]), ("1", "2"))
        self.assertEqual(seen(third), before)
        self.assertEqual(self.ended(third, "1", False), one)
        self.assertEqual(seen(third), seen(machine))
        self.assertEqual(third.steps(), machine.steps())

    def test_the_copied_one_may_be_changed_first(self):
        machine = self.part_way()
        other = machine.copy()
        before = seen(other)
        bind(other, 0, "5")
        run(other, [])
        self.assertEqual(seen(machine), before)
        again = machine.copy()
        bind(again, 0, "5")
        run(again, [])
        self.assertEqual(seen(again), seen(other))

    def test_copies_at_each_step(self):
        machine = make(self.PROGRAM, "X Y Z U C P Q F", X="3")
        other = machine.copy()
        while machine.ready():
            machine.step(machine.ready()[-1])
            other.step(other.ready()[-1])
            other = other.copy()
            self.assertEqual(seen(other), seen(machine))

    def test_cells_ports_triggers_and_threads(self):
        program = seq(call("NewCell", "Y", "X"), ("need", "Z", SKIP), ("choose", ("int", "Z", 1), call(
            "Exchange", "X", "Z", "X")))
        machine = steps(make(program), 4)
        other = machine.copy()
        machine.choose(0, False)
        other.choose(0, True)
        machine.step(0)
        other.step(0)
        self.assertEqual((machine.threads(), other.threads()), (2, 1))
        bind(other, 1, "8")
        self.assertEqual((other.threads(), texts(other, 1, 2), texts(machine, 1, 2)), (2, ["8", "8"], ["_1", "1"]))

    def test_new_lists_each_time(self):
        machine = make(seq(("thread", SKIP), SKIP))
        machine.ready().append(9)
        self.assertEqual(machine.ready(), [0])

    def test_the_same_program_twice(self):
        program = (("X", "Y"), seq(("proc", "X", ("A",), ("int", "A", 1)), call("X", "Y")))
        first = Machine(program)
        run(first, [])
        second = Machine(program)
        self.assertEqual(second.outcome(), (("_0", "_1"), (("ready", 1),)))
        run(second, [])
        self.assertEqual(raised(second), None)
        self.assertEqual(first.outcome(), second.outcome())


if __name__ == "__main__":
    unittest.main()
