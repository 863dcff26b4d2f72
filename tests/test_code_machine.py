"""The code machine, instruction by instruction (point 32)."""

import unittest

from leatwork.codemachine import CodeMachine
from leatwork.codes import is_code
from leatwork.errors import Failed, NotReady, TooMany
from leatwork.schedules import run
from tests.machines import MACHINE_ATOMS, bind, fill, raised, room_of, statuses, steps, text, texts
from tests.shapes import row as row_graph

END = ("end",)
# Registers of the given variables, and those that have other nodes.
X, Y, Z, U, R = 0, 1, 2, 3, 4
JUMPS = ("if", "caseint", "caseatom", "casetuple", "choose", "jump")
# So that each index from 0 to 3 is there.
FILLING = (("new", 10), ("new", 10), ("new", 10))


def make(*rows, others=(), given=5, registers=12, room=None, **values):
    """A machine of a code whose unit 0 has these instructions, where X, Y, Z and U have the values of the texts."""
    code = ((given, registers, (*rows, END)), *others)
    assert is_code(code)
    machine = CodeMachine(code)
    for name, value in values.items():
        bind(machine, "XYZU".index(name), value)
    if room is not None:
        fill(machine, room)
    return machine


def shifted(row, by):
    """The instruction at a place that is further behind."""
    return (*row[:-1], row[-1] + by) if row[0] in JUMPS else row


class Instructions(unittest.TestCase):

    def waits(self, row, on, **values):
        """The instruction waits for this register, without and with a handler, and stays the next one."""
        for rows in ((row, *FILLING), (("try", 3, 11), shifted(row, 1), *FILLING)):
            machine = make(*rows, **values)
            steps(machine, len(rows) - 3)
            self.assertEqual((machine.status(0), machine.waits_for(0)), ("waiting", machine.given(on)), row)
            with self.assertRaises(NotReady):
                machine.step(0)
            self.assertEqual(machine.steps(), len(rows) - 3)

    def goes_on(self, row, k=1, made=0, then=None, room=None, others=(), **values):
        """The instruction is done, and the next one is that with the index k, which is tested by what it does."""
        before = make(row, ("int", R, 1), ("int", R, 2), ("int", R, 3), others=others, room=room, **values)
        machine = steps(before.copy(), 1)
        self.assertEqual((machine.status(0), room_of(before) - room_of(machine)), ("ready", made), row)
        for register, expected in (then or {}).items():
            self.assertEqual(text(machine, register), expected, row)
        if room is None:
            machine.step(0)
            self.assertEqual(text(machine, R), str(k), row)

    def raises(self, row, atom, made=0, room=None, others=(), **values):
        before = make(row, *FILLING, others=others, room=room, **values)
        machine = steps(before.copy(), 1)
        self.assertEqual((machine.status(0), raised(machine)), ("broken", atom), row)
        self.assertEqual(room_of(before) - room_of(machine), made, row)
        # With a handler its register gets the node, and the thread goes on at its index.
        machine = make(("try", 6, 11), shifted(row, 1), *FILLING, END, ("tuple", R, "caught", (11,)), others=others,
                       room=room, **values)
        steps(machine, 2)
        self.assertEqual((machine.status(0), raised(machine)), ("ready", None), row)
        if room is None:
            machine.step(0)
            self.assertEqual(text(machine, R), f"caught({atom})", row)

    def test_new(self):
        self.goes_on(("new", 11), made=1)
        self.goes_on(("new", 11), made=1, room=1)
        self.raises(("new", 11), "memory", room=0)
        # A register that has a node gets another one.
        machine = steps(make(("new", X), ("int", X, 5), X="1"), 2)
        self.assertEqual((machine.status(0), text(machine, 0)), ("ready", "1"))

    def test_new_ones_are_different(self):
        machine = steps(make(("new", 10), ("new", 11), ("tuple", X, "f", (10, 11, 10))), 3)
        first, second, third = text(machine, 0)[2:-1].split(" ")
        self.assertEqual(first, third)
        self.assertNotEqual(first, second)

    def test_builtin(self):
        for n in range(9):
            machine = steps(make(("builtin", 10, n), ("bind", X, 10)), 2)
            self.assertEqual((text(machine, 0), machine.outcome()[0][0]), (f"<builtin {n}>",) * 2)
        self.goes_on(("builtin", 10, 8))
        self.goes_on(("builtin", 10, 0), room=0)

    def test_copy(self):
        machine = steps(make(("copy", 10, Y), ("int", 10, 7)), 2)
        self.assertEqual(texts(machine, 0, 1), ["_0", "7"])
        # It is the node that is copied: no equation.
        machine = steps(make(("copy", X, Y), ("int", X, 7)), 2)
        self.assertEqual(texts(machine, 0, 1), ["_0", "7"])
        self.goes_on(("copy", X, X))
        self.goes_on(("copy", 11, Y), room=0)

    def test_bind(self):
        self.goes_on(("bind", X, Y), then={Y: "_0"})
        self.goes_on(("bind", Y, X), room=0, then={Y: "_0"})
        self.goes_on(("bind", Y, X), then={Y: "f(1 2)", X: "f(1 2)"}, X="f(1 _2)", Y="f(_5 2)")
        self.raises(("bind", X, Y), "failure", X="f(1 2)", Y="f(_1 3)")
        machine = steps(make(("bind", X, Y), X="f(_1 2)", Y="f(1 3)"), 1)
        self.assertTrue(text(machine, 0).startswith("f(_"))

    def test_values(self):
        for row, expected in [(("int", X, -10 ** 9), "-1000000000"), (("int", X, 10 ** 9), "1000000000"),
                              (("atom", X, "a1"), "a1"), (("tuple", X, "f", (Y, Z, Y)), "f(_1 _2 _1)"),
                              (("tuple", X, "f", (X,)), "0=f(@0)")]:
            self.goes_on(row, made=1, then={X: expected})
            self.goes_on(row, made=1, room=1, then={X: expected})
            self.raises(row, "memory", room=0)
            self.raises(row, "memory", room=0, X="other")
            self.raises(row, "failure", made=1, X="other")
            self.raises(row, "failure", made=1, room=1, X="other")

    def test_if(self):
        for row in (("if", X, 2), ("if", X, 3), ("if", X, 1)):
            self.goes_on(row, k=1, X="true")
            self.goes_on(row, k=row[2], X="false")
            for other in ("1", "a", "f(true)", "<builtin 0>"):
                self.raises(row, "type", X=other)
            self.waits(("if", X, 2), X)

    def test_caseint(self):
        for k in (1, 2, 3):
            self.goes_on(("caseint", X, 5, k), k=1, X="5")
            for other in ("4", "-5", "a", "f(5)", "<a 5>"):
                self.goes_on(("caseint", X, 5, k), k=k, X=other)
        self.waits(("caseint", X, 5, 2), X)

    def test_caseatom(self):
        for k in (1, 2, 3):
            self.goes_on(("caseatom", X, "a", k), k=1, X="a")
            for other in ("b", "1", "a(a)", "<a 0>"):
                self.goes_on(("caseatom", X, "a", k), k=k, X=other)
        self.waits(("caseatom", X, "a", 2), X)

    def test_casetuple(self):
        self.goes_on(("casetuple", X, "f", (11, 10), 3), k=1, X="f(1 2)")
        for other in ("f(1)", "f(1 2 3)", "g(1 2)", "f", "1", "<f 2>"):
            self.goes_on(("casetuple", X, "f", (11, 10), 3), k=3, X=other)
        self.waits(("casetuple", X, "f", (11, 10), 2), X)
        machine = steps(make(("casetuple", X, "f", (11, X, 10), 2), ("tuple", R, "g", (10, X, 11)), X="f(1 2 3)"), 2)
        self.assertEqual(text(machine, R), "g(3 2 1)")
        # Where the pattern is not met, the registers keep what they have.
        machine = steps(make(("casetuple", X, "f", (Y, Z), 1), ("tuple", R, "g", (Y, Z)), X="f(1)", Y="8", Z="9"), 2)
        self.assertEqual(text(machine, R), "g(8 9)")

    def test_op(self):
        for sign, expected in [("+", "7"), ("-", "3"), ("*", "10"), ("<", "false"), ("==", "false")]:
            self.goes_on(("op", sign, X, Y, Z), made=1, then={X: expected}, Y="5", Z="2")
            self.raises(("op", sign, X, Y, Z), "failure", made=1, X="other", Y="5", Z="2")
            self.raises(("op", sign, X, Y, Z), "memory", X="other", Y="5", Z="2", room=0)
            self.waits(("op", sign, X, Y, Z), Y)
            self.waits(("op", sign, X, Y, Z), Y, Z="a")
            self.waits(("op", sign, X, Y, Z), Z, Y="a")
        for sign in "+-*<":
            self.raises(("op", sign, X, Y, Z), "type", Y="5", Z="a", room=0)
            self.raises(("op", sign, X, Y, Z), "type", Y="a", Z="5")
        self.goes_on(("op", "+", X, Y, Z), made=1, then={X: "1000000000"}, Y="999999999", Z="1")
        self.raises(("op", "+", X, Y, Z), "range", Y="1000000000", Z="1", X="other", room=0)
        self.raises(("op", "*", X, Y, Z), "range", Y="-1000000000", Z="2")
        self.goes_on(("op", "==", X, Y, Z), made=1, then={X: "true"}, Y="0=f(@0)", Z="0=f(@0)")
        self.waits(("op", "==", X, Y, Y), Y)

    def test_proc_and_call(self):
        unit = (3, 4, (("tuple", 0, "g", (1, 2)), END))
        for count, kept, passed in [(0, (X, Y, Z), ()), (1, (Y, Z), (X,)), (3, (), (X, Y, Z)), (2, (Z,), (X, Y))]:
            machine = make(("proc", U, 1, count, kept), ("call", U, passed), ("int", R, 1), others=(unit,))
            self.goes_on(("proc", U, 1, count, kept), made=1, then={U: "<proc 0>"}, others=(unit,))
            steps(machine, 2)
            self.assertEqual(text(machine, X), "_0")
            machine.step(0)
            self.assertEqual(text(machine, X), "g(_1 _2)")
            # Its end, and then the one behind the call.
            machine.step(0)
            self.assertEqual(text(machine, R), "_4")
            machine.step(0)
            self.assertEqual(text(machine, R), "1")
            for other in range(8):
                if other != count:
                    broken = steps(make(("proc", U, 1, count, kept), ("call", U, (X,) * other), others=(unit,)), 2)
                    self.assertEqual((broken.status(0), raised(broken)), ("broken", "arity"))

    def test_a_proc_that_fails_has_a_number(self):
        rows = (("try", 3, 11), ("proc", X, 0, 0, (0, 1, 2, 3, 4)), ("untry",), ("proc", Y, 0, 5, ()))
        machine = steps(make(*rows, X="1"), 3)
        self.assertEqual(texts(machine, 0, 1), ["1", "<proc 1>"])
        self.raises(("proc", X, 0, 5, ()), "failure", made=1, X="1")
        self.raises(("proc", X, 0, 5, ()), "memory", room=0, X="1")

    def test_call(self):
        self.waits(("call", X, ()), X)
        for value in ("1", "a", "f(1)", "<cell 0>", "<proc 0>", "<builtin 9>", "<other 0>"):
            self.raises(("call", X, (Y,)), "type", X=value)
        for n, count in enumerate((1, 2, 2, 3, 2, 2, 2, 2, 3)):
            for many in range(8):
                if many != count:
                    self.raises(("call", X, (Y,) * many), "arity", X=f"<builtin {n}>", room=0)

    def test_calls_of_built_in_procedures(self):
        self.waits(("call", X, (Y,)), Y, X="<builtin 0>")
        self.goes_on(("call", X, (Y,)), X="<builtin 0>", Y="2")
        self.goes_on(("call", X, (Y, Z)), made=1, then={Z: "false"}, X="<builtin 1>")
        self.goes_on(("call", X, (Y, Z)), made=1, then={Z: "true"}, X="<builtin 1>", Y="2")
        self.goes_on(("call", X, (Y, Z)), made=1, then={Z: "<cell 0>"}, X="<builtin 2>")
        self.waits(("call", X, (Y, Z, U)), Y, X="<builtin 3>")
        self.raises(("call", X, (Y, Z, U)), "type", X="<builtin 3>", Y="1")
        self.goes_on(("call", X, (Y, Z)), made=1, then={Z: "<port 0>"}, X="<builtin 4>")
        self.waits(("call", X, (Y, Z)), Y, X="<builtin 5>")
        self.goes_on(("call", X, (Y, Z)), made=1, then={Z: "f"}, X="<builtin 6>", Y="f(1 2)")
        self.goes_on(("call", X, (Y, Z)), made=1, then={Z: "2"}, X="<builtin 7>", Y="f(1 2)")
        self.waits(("call", X, (Y, Z, U)), Z, X="<builtin 8>", Y="1")
        self.goes_on(("call", X, (Y, Z, U)), then={U: "8"}, X="<builtin 8>", Y="f(8 9)", Z="1")
        self.raises(("call", X, (Y, Z, U)), "arity", X="<builtin 8>", Y="f(8 9)", Z="3")

    def test_cells_and_ports(self):
        machine = make(("builtin", 5, 2), ("call", 5, (X, Y)), ("builtin", 5, 3), ("call", 5, (Y, Z, U)),
                       ("call", 5, (Y, R, U)), X="1")
        run(machine, [])
        self.assertEqual(machine.outcome()[0], ("1", "<cell 0>", "1", "_0", "_0"))
        machine = make(("builtin", 5, 4), ("call", 5, (X, Y)), ("builtin", 5, 5), ("call", 5, (Y, Z)),
                       ("call", 5, (Y, U)))
        run(machine, [])
        self.assertEqual(machine.outcome()[0][0], "cons(_0 cons(_1 _2))")

    def test_jump(self):
        for k in (1, 2, 3):
            self.goes_on(("jump", k), k=k)
        machine = make(("jump", 2), ("int", X, 1))
        machine.step(0)
        self.assertEqual(machine.status(0), "ready")
        machine.step(0)
        self.assertEqual((machine.status(0), text(machine, X), machine.steps()), ("done", "_0", 2))

    def test_end(self):
        machine = make(END, ("int", X, 1))
        self.assertEqual(machine.status(0), "ready")
        machine.step(0)
        self.assertEqual((machine.status(0), text(machine, X), machine.threads()), ("done", "_0", 1))
        with self.assertRaises(NotReady):
            machine.step(0)

    def test_raise(self):
        self.raises(("raise", X), "f(1)", X="f(1)")
        machine = steps(make(("raise", Y)), 1)
        self.assertEqual((machine.raised(0), machine.waits_for(0)), ((("var", 1),), None))

    def test_every_instruction_is_one_step(self):
        rows = [("new", 10), ("builtin", 11, 0), ("copy", 9, 10), ("bind", 9, 10), ("try", 6, 8), ("untry",),
                ("jump", 7),
                ("int", 10, 1), ("caseint", 10, 1, 9), ("caseatom", 10, "a", 11), ("raise", 10), ("int", X, 1)]
        machine = make(*rows)
        for many in range(1, len(rows) + 1):
            machine.step(0)
            self.assertEqual(machine.steps(), many)
        # The raise was passed over.
        self.assertEqual((machine.status(0), text(machine, X)), ("done", "1"))


class Handlers(unittest.TestCase):

    def test_inside_of_each_other(self):
        rows = [("try", 5, 10), ("try", 5, 11), ("raise", X), ("untry",), ("untry",), ("raise", Y)]
        machine = steps(make(*rows, X="1", Y="2"), 3)
        # The inner one has taken the first; the outer one is still there, and takes the second.
        machine.step(0)
        self.assertEqual(machine.status(0), "ready")
        machine.step(0)
        self.assertEqual((machine.status(0), raised(machine)), ("broken", "2"))

    def test_the_registers(self):
        rows = [("try", 4, 10), ("try", 3, 11), ("raise", X), ("raise", 11), ("tuple", R, "f", (10, 11))]
        machine = steps(make(*rows, X="7"), 5)
        self.assertEqual(text(machine, R), "f(7 7)")

    def test_untry(self):
        machine = steps(make(("try", 3, 10), ("untry",), ("raise", X), ("int", R, 1), X="1"), 3)
        self.assertEqual((machine.status(0), raised(machine), text(machine, R)), ("broken", "1", "_4"))
        machine = steps(make(("try", 4, 10), ("try", 4, 11), ("untry",), ("raise", X), ("bind", R, 10), X="1"), 5)
        self.assertEqual((machine.status(0), text(machine, R)), ("ready", "1"))

    def chain(self, many, tries):
        """Calls so many units one inside of the other; the last one raises X, those of `tries` catch it."""
        units = []
        for k in range(1, many + 1):
            body = ("raise", 0) if k == many else ("call", 3, (0, 1))
            rows = [("new", 3), ("proc", 3, min(k + 1, many), 2, ()), ("try", 6, 2) if k in tries else ("jump", 3),
                    body, ("jump", 5), END, ("tuple", 1, f"c{k}", (2,)) if k in tries else ("jump", 7), END]
            units.append((2, 4, tuple(rows)))
        machine = make(("proc", U, 1, 2, ()), ("call", U, (X, R)), ("int", Y, 1), others=tuple(units), X="9")
        run(machine, [])
        return machine

    def test_through_activations(self):
        for many in (1, 2, 5):
            machine = self.chain(many, ())
            self.assertEqual((machine.status(0), raised(machine), texts(machine, R, Y)), ("broken", "9", ["_4", "_1"]))

    def test_the_topmost_one_that_has_a_handler(self):
        for many, tries, found in [(5, (1,), 1), (5, (2,), 2), (5, (1, 3), 3), (3, (3,), 3), (1, (1,), 1)]:
            machine = self.chain(many, tries)
            self.assertEqual((machine.status(0), raised(machine)), ("done", None))
            # The activations below go on behind their calls.
            self.assertEqual(texts(machine, R, Y), [f"c{found}(9)", "1"])

    def test_a_handler_of_an_activation_that_has_ended_is_gone(self):
        unit = (0, 1, (("try", 2, 0), END, END))
        rows = [("proc", U, 1, 0, ()), ("call", U, ()), ("raise", X)]
        machine = steps(make(*rows, others=(unit,), X="1"), 5)
        self.assertEqual((machine.status(0), raised(machine)), ("broken", "1"))

    def test_a_thread_has_no_handlers_of_the_one_that_made_it(self):
        unit = (1, 1, (("raise", 0), END))
        machine = make(("try", 2, 10), ("thread", 1, (X,)), ("untry",), others=(unit,), X="1")
        run(machine, [])
        self.assertEqual((statuses(machine), raised(machine, 1)), (["done", "broken"], "1"))


class Activations(unittest.TestCase):

    def calling(self, many):
        """Calls itself as long as the row that it gets is not at its end: so many activations in all, with unit 0."""
        unit = (2, 3, (("casetuple", 0, "c", (2,), 2), ("call", 1, (2, 1)), END))
        machine = make(("proc", U, 1, 2, ()), ("try", 4, 10), ("call", U, (X, U)), ("untry",), ("int", R, 1),
                       others=(unit,))
        node = machine.add(row(many - 1))
        machine.tell(machine.given(X), node)
        return machine

    def test_200_and_201(self):
        for many, caught in [(2, False), (199, False), (200, False), (201, True), (230, True)]:
            machine = self.calling(many)
            run(machine, [])
            self.assertEqual((machine.status(0), text(machine, R)), ("done", "1"))
            self.assertEqual(room_of(machine.copy()) > 0, True)
            unit = (2, 3, (("casetuple", 0, "c", (2,), 2), ("call", 1, (2, 1)), END))
            machine = make(("proc", U, 1, 2, ()), ("call", U, (X, U)), others=(unit,))
            machine.tell(machine.given(X), machine.add(row(many - 1)))
            run(machine, [])
            self.assertEqual((machine.status(0), raised(machine)), ("broken", "stack") if caught else ("done", None))

    def test_it_comes_behind_type_and_arity(self):
        for value, atom in [("1", "type"), ("<builtin 0>", "arity"), (None, "stack")]:
            last = [("proc", Z, 2, 0, ())] if value is None else []
            unit = (3, 4, (("casetuple", 0, "c", (3,), 3), ("call", 1, (3, 1, 2)), END, ("call", 2, ()), END))
            machine = make(*last, ("proc", U, 1, 3, ()), ("call", U, (X, U, Z)), others=(unit, (0, 0, (END,))),
                           **({} if value is None else {"Z": value}))
            machine.tell(machine.given(X), machine.add(row(199)))
            run(machine, [])
            self.assertEqual((machine.status(0), raised(machine)), ("broken", atom))

    def test_a_built_in_procedure_needs_no_activation(self):
        unit = (3, 4, (("casetuple", 0, "c", (3,), 3), ("call", 1, (3, 1, 2)), END, ("call", 2, (0,)), END))
        machine = make(("proc", U, 1, 3, ()), ("call", U, (X, U, Z)), others=(unit,), Z="<builtin 0>")
        machine.tell(machine.given(X), machine.add(row(199)))
        run(machine, [])
        self.assertEqual(machine.status(0), "done")

    def test_registers_are_those_of_the_activation(self):
        unit = (1, 3, (("new", 2), ("int", 2, 8), ("tuple", 0, "f", (2,)), END))
        machine = make(("proc", U, 1, 1, ()), ("call", U, (X,)), ("call", U, (Y,)), ("tuple", Z, "g", (X, Y)),
                       others=(unit,))
        run(machine, [])
        self.assertEqual(text(machine, Z), "g(f(8) f(8))")


def row(many):
    """So many activations: rows of one tuple fewer, as the last part is an atom."""
    return tuple(("tuple", "c", (k + 1,)) for k in range(many - 1)) + (("atom", "a"),)


class Threads(unittest.TestCase):

    def test_thread(self):
        unit = (2, 3, (("bind", 0, 1), END))
        machine = steps(make(("thread", 1, (Y, Z)), others=(unit,)), 1)
        self.assertEqual((machine.threads(), statuses(machine), machine.ready()), (2, ["ready", "ready"], [0, 1]))
        machine.step(1)
        self.assertEqual((text(machine, Z), machine.status(1)), ("_1", "ready"))
        machine.step(1)
        self.assertEqual((statuses(machine), machine.ready()), (["ready", "done"], [0]))

    def test_60_and_61_threads(self):
        unit = (0, 0, (END,))
        for many, atom in [(59, None), (60, "threads")]:
            machine = steps(make(*[("thread", 1, ())] * many, others=(unit,)), many)
            self.assertEqual((machine.threads(), raised(machine)), (60, atom))
            rows = [("thread", 1, ())] * many + [("need", X, 1, ())]
            machine = steps(make(*rows[1:], others=(unit,), X="1"), many)
            self.assertEqual((machine.threads(), raised(machine)), (60, atom))
        rows = [("thread", 1, ())] * 59 + [("try", 62, 10), ("thread", 1, ()), ("untry",), ("bind", R, 10)]
        machine = steps(make(*rows[:61], ("untry",), ("bind", R, 10), others=(unit,)), 62)
        self.assertEqual((machine.threads(), text(machine, R)), (60, "threads"))

    def test_need(self):
        unit = (1, 1, (("int", 0, 5), END))
        for value, threads in [(None, 1), ("3", 2)]:
            machine = steps(make(("need", X, 1, (Y,)), others=(unit,), **({"X": value} if value else {})), 1)
            self.assertEqual((machine.threads(), machine.status(0)), (threads, "ready"))
        # A thread that waits for it starts it, and so does one that binds it.
        for row_of_other in (("if", X, 2), ("int", X, 1)):
            machine = steps(make(("need", X, 1, (Y,)), row_of_other, others=(unit,)), 2)
            self.assertEqual(machine.threads(), 2)
            machine.step(1)
            self.assertEqual(text(machine, Y), "5")
        other = (1, 1, (("if", 0, 1), END))
        machine = make(("thread", 2, (X,)), ("need", X, 1, (Y,)), others=(unit, other))
        machine.step(0)
        machine.step(1)
        machine.step(0)
        self.assertEqual((machine.threads(), machine.status(1)), (3, "waiting"))

    def test_a_trigger_without_room(self):
        rows = [("need", X, 1, ())] + [("thread", 1, ())] * 59 + [("try", 62, 10), ("int", X, 1)]
        machine = steps(make(*rows, ("untry",), others=((0, 0, (END,)),)), 62)
        self.assertEqual((machine.threads(), machine.status(0), raised(machine), text(machine, X)),
                         (60, "broken", "threads", "1"))

    def test_a_thread_that_waits_goes_on(self):
        unit = (2, 2, (("if", 0, 2), ("int", 1, 1), END))
        machine = make(("thread", 1, (X, Y)), ("int", Z, 1), ("atom", X, "true"), others=(unit,))
        machine.step(0)
        machine.step(1)
        self.assertEqual((machine.status(1), machine.waits_for(1), machine.waits_for(0)), ("waiting", 0, None))
        machine.step(0)
        self.assertEqual(machine.status(1), "waiting")
        machine.step(0)
        self.assertEqual((machine.status(1), machine.waits_for(1)), ("ready", None))
        steps(machine, 2, 1)
        self.assertEqual(text(machine, Y), "1")

    def test_choose(self):
        for second in (False, True):
            machine = make(("choose", 3), ("int", X, 1), ("jump", 4), ("int", X, 2), ("int", Y, 1))
            self.assertEqual((machine.status(0), machine.ready()), ("choosing", []))
            with self.assertRaises(NotReady):
                machine.step(0)
            machine.choose(0, second)
            self.assertEqual((machine.status(0), machine.steps()), ("ready", 0))
            with self.assertRaises(NotReady):
                machine.choose(0, second)
            run(machine, [])
            self.assertEqual(texts(machine, X, Y), ["2" if second else "1", "1"])

    def test_choose_behind_choose(self):
        machine = make(("choose", 1), ("choose", 3), ("int", X, 1), ("int", Y, 2))
        machine.choose(0, True)
        self.assertEqual(machine.status(0), "choosing")
        machine.choose(0, True)
        run(machine, [])
        self.assertEqual(texts(machine, X, Y), ["_0", "2"])

    def test_threads_that_are_not_there(self):
        machine = make(("int", X, 1))
        for thread in (1, 2, 60, -1):
            with self.assertRaises(NotReady):
                machine.step(thread)
            with self.assertRaises(NotReady):
                machine.choose(thread, True)
        self.assertEqual(machine.steps(), 0)


class FromOutside(unittest.TestCase):

    def test_the_beginning(self):
        machine = CodeMachine(((3, 5, (END,)),))
        self.assertEqual([machine.given(k) for k in range(3)], [0, 1, 2])
        self.assertEqual([machine.graph(k) for k in range(3)], [(("var", k),) for k in range(3)])
        self.assertEqual([machine.graph(3 + k) for k in range(9)], [(("name", "builtin", k),) for k in range(9)])
        self.assertEqual([machine.graph(12 + k) for k in range(7)], [(("atom", a),) for a in MACHINE_ATOMS])
        self.assertEqual((machine.add((("int", 1),)), machine.threads(), machine.steps(), machine.raised(0)),
                         (19, 1, 0, None))
        self.assertEqual(machine.outcome(), (("_0", "_1", "_2"), (("ready", 1),)))
        machine = CodeMachine(((0, 0, (END,)),))
        self.assertEqual(machine.outcome(), ((), (("ready", 1),)))

    def test_tell(self):
        unit = (1, 1, (("int", 0, 5), END))
        machine = steps(make(("need", X, 1, (Y,)), ("if", Z, 2), others=(unit,)), 2)
        self.assertEqual(machine.threads(), 1)
        self.assertIsNone(machine.tell(machine.given(X), machine.add((("tuple", "f", (0,)),))))
        self.assertEqual((machine.threads(), machine.steps(), machine.status(0)), (2, 2, "waiting"))
        bind(machine, Z, "true")
        self.assertEqual(machine.status(0), "ready")
        with self.assertRaises(Failed):
            machine.tell(machine.given(Z), machine.add((("atom", "false"),)))
        self.assertEqual(texts(machine, X, Z), ["0=f(@0)", "true"])

    def test_graphs_that_are_too_large(self):
        machine = make(("tuple", Y, "h", (X,)), ("raise", Y))
        machine.tell(machine.given(X), machine.add(row_graph(400)))
        self.assertEqual(len(machine.graph(machine.given(X))), 400)
        steps(machine, 2)
        for ask in (lambda: machine.graph(machine.given(Y)), lambda: machine.outcome(), lambda: machine.raised(0)):
            with self.assertRaises(TooMany):
                ask()

    def test_add_without_room(self):
        machine = make(room=3)
        with self.assertRaises(TooMany):
            machine.add(row_graph(4))
        self.assertEqual(room_of(machine), 3)
        machine.add(row_graph(3))
        self.assertEqual(room_of(machine), 0)


class Copies(unittest.TestCase):

    def machines(self):
        unit = (2, 4, (("new", 3), ("try", 4, 2), ("if", 0, 3), ("raise", 0), ("int", 1, 7), END))
        rows = [("need", Y, 1, (X, Z)), ("proc", U, 1, 2, ()), ("call", U, (X, R)), ("choose", 5), ("int", Y, 3),
                ("int", Y, 4)]
        return make(*rows, others=(unit,))

    def asked(self, machine):
        return (machine.outcome(), statuses(machine), machine.steps(), machine.ready(), machine.threads(),
                room_of(machine),
                [machine.raised(k) for k in range(machine.threads())],
                [machine.waits_for(k) for k in range(machine.threads())])

    def test_they_go_on_by_themselves_both_ways(self):
        for many in range(8):
            for first in (0, 1):
                machine = self.machines()
                run_some(machine, many)
                copied = machine.copy()
                self.assertIs(type(copied), CodeMachine)
                before = self.asked(machine)
                self.assertEqual(self.asked(copied), before)
                one, other = (machine, copied) if first else (copied, machine)
                bind(one, X, "false")
                run_some(one, 30)
                self.assertEqual(self.asked(other), before)
                bind(other, X, "false")
                run_some(other, 30)
                self.assertEqual(self.asked(one), self.asked(other))


    def test_registers_handlers_places_and_triggers_are_their_own(self):
        unit = (1, 1, (("int", 0, 9), END))
        rows = [("choose", 5), ("copy", 10, X), ("try", 8, 11), ("need", U, 1, (Z,)), ("jump", 6), ("copy", 10, Y),
                ("int", 10, 3), ("raise", 10), ("int", 11, 4)]
        for first in (False, True):
            machine = make(*rows, others=(unit,))
            copied = machine.copy()
            machine.choose(0, first)
            copied.choose(0, not first)
            one, other = (copied, machine) if first else (machine, copied)
            # One step of the one, and one of the other, as long as they can.
            for _ in range(10):
                for each in (machine, copied):
                    if each.ready():
                        each.step(0)
            self.assertEqual((one.status(0), raised(one), texts(one, X, Y)), ("broken", "failure", ["3", "_1"]))
            self.assertEqual((other.status(0), raised(other), texts(other, X, Y)), ("broken", "3", ["_0", "3"]))
            for each, threads in ((one, 2), (other, 1)):
                bind(each, U, "1")
                self.assertEqual(each.threads(), threads)


def run_some(machine, many):
    """Takes steps and chooses, the first one of both."""
    for _ in range(many):
        if machine.ready():
            machine.step(machine.ready()[0])
        elif "choosing" in statuses(machine):
            machine.choose(statuses(machine).index("choosing"), True)


if __name__ == "__main__":
    unittest.main()
