"""Each kind of statement and each built-in procedure: what it waits for, what it raises and what it does (13, 15, 16)."""

import unittest

from tests.build import SKIP, call, local, op, seq
from tests.machines import bind, fill, make, raised, room_of, size, steps, text, texts, until

GIVEN = "X Y Z U"
INDEX = {"X": 0, "Y": 1, "Z": 2, "U": 3}

CALLED = [
    ("local", "A", SKIP), ("bind", "X", "Y"), ("int", "X", 1), ("atom", "X", "a"), ("tuple", "X", "f", ("Y",)),
    ("proc", "X", (), SKIP), op("+", "X", "Y", "Z"), op("==", "X", "Y", "Z"), call("Wait", "X"),
]


class Steps(unittest.TestCase):

    def one_step(self, statement, inside, room, values):
        """A machine of the statement behind one step of it; inside: within a try, which keeps in R what it caught."""
        if inside:
            statement = ("try", statement, "E", ("tuple", "R", "caught", ("E",)))
        machine = make(statement, GIVEN + " R", room, **values)
        return steps(machine, 2 if inside else 1)

    def waits(self, statement, name, room=None, **values):
        """The step finds that it has to wait for this variable, and changes nothing."""
        for inside in (False, True):
            machine = self.one_step(statement, inside, room, values)
            self.assertEqual(machine.status(0), "waiting", statement)
            self.assertEqual(machine.waits_for(0), machine.given(INDEX[name]), statement)
            self.assertEqual(machine.steps(), 2 if inside else 1)

    def raises(self, statement, atom, made=0, room=None, **values):
        """The step raises the atom, and makes so many nodes."""
        machine = self.one_step(statement, False, room, values)
        self.assertEqual((machine.status(0), raised(machine)), ("broken", atom), statement)
        before = make(statement, GIVEN + " R", room, **values)
        self.assertEqual(room_of(before) - room_of(machine), made)
        self.assertEqual(texts(before, 0, 1, 2, 3), texts(machine, 0, 1, 2, 3))
        machine = self.one_step(statement, True, room, values)
        self.assertEqual((machine.status(0), raised(machine)), ("ready", None), statement)
        if room is None:
            machine.step(0)
            self.assertEqual((machine.status(0), text(machine, 4)), ("done", f"caught({atom})"))

    def does(self, statement, made=0, room=None, then=None, **values):
        """The step is done, makes so many nodes, and the variables have these values then."""
        for inside in (False, True):
            before = make(statement, GIVEN + " R", room, **values)
            machine = self.one_step(statement, inside, room, values)
            self.assertIn(machine.status(0), ("done", "ready"), statement)
            self.assertIsNone(machine.waits_for(0))
            self.assertEqual(room_of(before) - room_of(machine), made, statement)
            for name, expected in (then or {}).items():
                self.assertEqual(text(machine, INDEX[name]), expected, statement)
        return machine

    def exactly(self, statement, made, **values):
        """It raises memory, and makes nothing, unless there is room for what it makes."""
        for room in range(made + 2):
            if room < made:
                self.raises(statement, "memory", 0, room, **values)
            else:
                self.does(statement, made, room, **values)

    # The plain statements.

    def test_skip(self):
        self.does(SKIP)
        self.does(SKIP, room=0)

    def test_seq(self):
        machine = make(seq(("int", "X", 1), ("int", "Y", 2)))
        for expected in [["_0", "_1"], ["1", "_1"], ["1", "2"]]:
            machine.step(0)
            self.assertEqual(texts(machine, 0, 1), expected)
        self.assertEqual((machine.status(0), machine.steps()), ("done", 3))

    def test_local(self):
        self.exactly(("local", "X", ("int", "X", 1)), 1)
        machine = steps(make(("local", "X", seq(("int", "X", 1), ("bind", "X", "Y")))), 4)
        self.assertEqual(texts(machine, 0, 1), ["_0", "1"])
        self.assertEqual(machine.graph(19), (("int", 1),))

    def test_local_is_a_new_variable_each_time(self):
        body = ("local", "A", ("tuple", "B", "f", ("A", "B")))
        machine = make(local("P", ("proc", "P", ("B",), body), call("P", "X"), call("P", "Y")))
        until(machine, lambda m: m.status(0) != "ready")
        self.assertEqual((machine.status(0), texts(machine, 0, 1)), ("done", ["0=f(_21 @0)", "0=f(_23 @0)"]))

    def test_bind(self):
        self.does(("bind", "X", "Y"), 0, 0, {"X": "_0", "Y": "_0"})
        self.does(("bind", "Y", "X"), 0, 0, {"X": "_0", "Y": "_0"})
        self.does(("bind", "X", "Y"), X="f(1 _1)", Y="f(_1 2)", then={"X": "f(1 2)", "Y": "f(1 2)"})
        self.does(("bind", "X", "X"))
        self.raises(("bind", "X", "Y"), "failure", X="f(_1 1)", Y="f(3 2)")
        self.raises(("bind", "X", "Y"), "failure", 0, 0, X="1", Y="2")
        self.does(("bind", "X", "Wait"), then={"X": "<builtin 0>"})
        self.raises(("bind", "Wait", "Part"), "failure")

    def test_int_atom_and_tuple(self):
        self.exactly(("int", "X", 1), 1)
        self.exactly(("atom", "X", "a"), 1)
        self.exactly(("tuple", "X", "f", ("Y", "X")), 1)
        self.does(("int", "X", -10 ** 9), 1, then={"X": "-1000000000"})
        self.does(("atom", "X", "type"), 1, then={"X": "type"})
        self.does(("tuple", "X", "f", ("Y", "X", "Y")), 1, then={"X": "0=f(_1 @0 _1)"})
        self.does(("tuple", "X", "f", ("Wait",)), 1, then={"X": "f(<builtin 0>)"})
        # The node is made first, so it is there behind a failure, too.
        self.raises(("int", "X", 1), "failure", 1, X="2")
        self.raises(("atom", "X", "a"), "failure", 1, X="b")
        self.raises(("tuple", "X", "f", ("Y",)), "failure", 1, X="g(1)")
        self.raises(("int", "Wait", 1), "failure", 1)
        self.raises(("int", "X", 1), "memory", 0, 0, X="2")
        self.raises(("atom", "X", "a"), "memory", 0, 0, X="b")
        self.raises(("tuple", "X", "f", ("Y",)), "memory", 0, 0, X="g(1)")
        self.does(("int", "X", 1), 1, X="1", then={"X": "1"})

    def test_proc(self):
        self.exactly(("proc", "X", ("A",), SKIP), 1)
        self.does(("proc", "X", (), SKIP), 1, then={"X": "<proc 0>"})
        self.raises(("proc", "X", (), SKIP), "failure", 1, X="1")
        self.raises(("proc", "X", (), SKIP), "memory", 0, 0, X="1")
        self.does(("proc", "X", (), SKIP), 1, X="<proc 0>")

    def test_the_numbers_of_procedures(self):
        # Behind a failure the number is used up; without room it is not.
        failing = ("try", ("proc", "U", (), SKIP), "E", SKIP)
        machine = make(seq(failing, ("proc", "X", (), SKIP), ("proc", "Y", (), SKIP)), GIVEN, U="1")
        steps(machine, 7)
        self.assertEqual(texts(machine, 0, 1), ["<proc 1>", "<proc 2>"])
        machine = make(seq(failing, ("int", "X", 1)), GIVEN, 0)
        steps(machine, 4)
        self.assertEqual(room_of(machine), 0)

    def test_if(self):
        statement = ("if", "X", ("int", "Y", 1), ("int", "Y", 2))
        self.waits(statement, "X")
        self.waits(statement, "X", room=0)
        for value in ("true", "false"):
            machine = self.does(statement, X=value)
            machine.step(0)
            self.assertEqual(text(machine, 1), "1" if value == "true" else "2")
        for value in ("1", "a", "true(1)", "f(true)", "<cell 0>", "<true 0>"):
            self.raises(statement, "type", X=value)
        self.raises(statement, "type", 0, 0, X="1")

    def case(self, pattern, value, met, then=None):
        body = ("tuple", "Y", "met", pattern[2]) if pattern[0] == "tuple" else ("atom", "Y", "met")
        statement = ("case", "X", pattern, body, ("atom", "Y", "not"))
        self.waits(statement, "X", room=0)
        machine = self.does(statement, X=value)
        machine.step(0)
        self.assertEqual(text(machine, 1), then if met else "not")

    def test_case(self):
        self.case(("int", 5), "5", True, "met")
        for value in ("4", "a", "f(5)", "<cell 5>", "-5"):
            self.case(("int", 5), value, False)
        self.case(("atom", "a"), "a", True, "met")
        for value in ("b", "1", "a(a)", "<a 0>"):
            self.case(("atom", "a"), value, False)
        self.case(("tuple", "f", ("A", "B")), "f(1 g(2))", True, "met(1 g(2))")
        self.case(("tuple", "f", ("X", "Z")), "f(1 2)", True, "met(1 2)")
        for value in ("g(1 2)", "f(1)", "f(1 2 3)", "f", "2", "<f 2>"):
            self.case(("tuple", "f", ("A", "B")), value, False)
        self.case(("tuple", "f", tuple("ABCDEF")), "f(1 2 3 4 5 6)", True, "met(1 2 3 4 5 6)")

    def test_case_parts_are_the_nodes_themselves(self):
        statement = ("case", "X", ("tuple", "f", ("X", "Y")), seq(("int", "X", 1), ("bind", "Y", "Z")), SKIP)
        machine = steps(make(statement, X="f(_1 _2)"), 4)
        self.assertEqual(text(machine, 0), "f(1 _2)")
        self.assertEqual(text(machine, 1), "_1")

    def test_call(self):
        self.waits(call("X"), "X")
        self.waits(call("X", "Y"), "X", room=0)
        for value in ("1", "a", "f(1)", "<cell 0>", "<port 0>", "<proc 0>", "<proc 7>", "<builtin 9>", "<call 0>",
                      "proc", "proc(1)", "builtin", "builtin(1)"):
            self.raises(call("X"), "type", X=value)
            self.raises(call("X", *["Y"] * 7), "type", 0, 0, X=value)

    def called(self, parameters, many):
        statement = seq(("proc", "X", parameters, ("atom", "Y", "called")), call("X", *["Z"] * many))
        return steps(make(statement, GIVEN), 3)

    def test_call_arity(self):
        for many in range(7):
            parameters = tuple("ABCDEF"[:many])
            for passed in range(8):
                machine = self.called(parameters, passed)
                self.assertEqual((machine.status(0), raised(machine)), (
                    ("ready", None) if many == passed else ("broken", "arity")))

    def test_call_puts_the_body_on_the_stack(self):
        body = ("tuple", "A", "f", ("B", "Z", "A"))
        machine = steps(make(seq(("proc", "X", ("A", "B"), body), call("X", "Y", "Z")), GIVEN), 4)
        self.assertEqual((machine.status(0), text(machine, 1)), ("done", "0=f(_2 _2 @0)"))
        # What the body uses from outside is what was known where the procedure was made.
        statement = local("A", ("atom", "A", "in"), ("proc", "X", (), ("bind", "A", "Y")))
        machine = make(seq(statement, local("A", ("atom", "A", "out"), call("X"))), GIVEN)
        steps(machine, 10)
        self.assertEqual((machine.status(0), text(machine, 1)), ("done", "in"))

    def test_parameters_come_before_what_is_known_outside(self):
        statement = seq(("proc", "X", ("X", "Y"), ("bind", "X", "Y")), ("int", "Z", 1), call("X", "Z", "U"))
        machine = steps(make(statement, GIVEN), 6)
        self.assertEqual(texts(machine, 0, 1, 2, 3), ["<proc 0>", "_1", "1", "1"])

    def test_raise(self):
        for value, expected in [("1", "1"), ("f(_1 _2)", "f(_18 _19)"), ("<cell 3>", "<cell 3>"), ("x", "x")]:
            machine = make(("raise", "X"), "X", X=value)
            machine.step(0)
            self.assertEqual((machine.status(0), raised(machine)), ("broken", expected))
        machine = steps(make(("raise", "Y")), 1)
        self.assertEqual((machine.status(0), raised(machine)), ("broken", "_1"))
        bind(machine, 1, "f(1)")
        self.assertEqual(raised(machine), "f(1)")
        machine = steps(make(("raise", "Send")), 1)
        self.assertEqual(raised(machine), "<builtin 5>")

    # Operations.

    def test_op_waits_from_left_to_right(self):
        for sign in "+-*<":
            self.waits(op(sign, "X", "Y", "Z"), "Y", room=0)
            self.waits(op(sign, "X", "Y", "Z"), "Y", Z="1")
            self.waits(op(sign, "X", "Y", "Z"), "Z", Y="1")
            self.waits(op(sign, "X", "Y", "Y"), "Y")
            # It waits for both before it looks at either.
            self.waits(op(sign, "X", "Y", "Z"), "Z", room=0, Y="a")
            self.waits(op(sign, "X", "Y", "Z"), "Y", room=0, Z="a")

    def test_op_type(self):
        for sign in "+-*<":
            for value in ("a", "f(1)", "<cell 0>", "true", "<builtin 0>"):
                self.raises(op(sign, "X", "Y", "Z"), "type", Y=value, Z="1")
                self.raises(op(sign, "X", "Y", "Z"), "type", 0, 0, Y="1", Z=value)
                self.raises(op(sign, "X", "Y", "Z"), "type", Y=value, Z=value, X="1")

    def test_op_results(self):
        for sign, y, z, result in [
                ("+", 2, 3, "5"), ("+", 2, -3, "-1"), ("-", 2, 3, "-1"), ("-", 3, 2, "1"), ("*", 2, -3, "-6"),
                ("*", 0, -3, "0"), ("<", 2, 3, "true"), ("<", 3, 2, "false"), ("<", 2, 2, "false"),
                ("<", -10 ** 9, 10 ** 9, "true"), ("+", 10 ** 9 - 1, 1, "1000000000"),
                ("-", 1 - 10 ** 9, 1, "-1000000000"), ("*", 10 ** 5, 10 ** 4, "1000000000"),
                ("*", 10 ** 5, -10 ** 4, "-1000000000"), ("-", 10 ** 9, 10 ** 9, "0"),
                ("<", 10 ** 9, -10 ** 9, "false")]:
            self.does(op(sign, "X", "Y", "Z"), 1, Y=str(y), Z=str(z), then={"X": result})
            self.exactly(op(sign, "X", "Y", "Z"), 1, Y=str(y), Z=str(z))

    def test_op_range(self):
        for sign, y, z in [("+", 10 ** 9, 1), ("+", -10 ** 9, -1), ("-", -10 ** 9, 1), ("-", 10 ** 9, -1),
                           ("*", 10 ** 9, 2), ("*", 10 ** 9, -2), ("*", 31623, 31623), ("*", 10 ** 9, 10 ** 9),
                           ("-", 10 ** 9, -10 ** 9), ("+", 10 ** 9, 10 ** 9)]:
            self.raises(op(sign, "X", "Y", "Z"), "range", 0, None, Y=str(y), Z=str(z))
            self.raises(op(sign, "X", "Y", "Z"), "range", 0, 0, Y=str(y), Z=str(z), X="a")

    def test_op_failure_and_memory(self):
        for sign, result, other in [("+", "3", "4"), ("-", "-1", "true"), ("*", "2", "a"), ("<", "true", "false"),
                                    ("==", "false", "true")]:
            self.raises(op(sign, "X", "Y", "Z"), "failure", 1, X=other, Y="1", Z="2")
            self.raises(op(sign, "X", "Y", "Z"), "memory", 0, 0, X=other, Y="1", Z="2")
            self.does(op(sign, "X", "Y", "Z"), 1, X=result, Y="1", Z="2")

    def test_op_into_its_own_argument(self):
        self.raises(op("+", "Y", "Y", "Z"), "failure", 1, Y="1", Z="2")
        self.does(op("+", "Y", "Y", "Z"), 1, Y="1", Z="0")
        self.waits(op("+", "Y", "Y", "Z"), "Y", Z="1")

    def test_equal_trees(self):
        for y, z, expected in [
                ("1", "1", "true"), ("1", "2", "false"), ("a", "a", "true"), ("a", "b", "false"), ("1", "a", "false"),
                ("<cell 1>", "<cell 1>", "true"), ("<cell 1>", "<cell 2>", "false"), ("<cell 1>", "<port 1>", "false"),
                ("f(1)", "f(1)", "true"), ("f(1)", "g(1)", "false"), ("f(1)", "f(1 1)", "false"), ("f(1)", "f", "false"),
                ("f(1 g(2))", "f(1 g(2))", "true"), ("f(1 g(2))", "f(1 g(3))", "false"),
                ("0=f(@0)", "0=f(@0)", "true"), ("0=f(@0)", "0=f(g(@0))", "false"),
                ("0=f(@0 1)", "0=f(@0 2)", "false"), ("0=f(@0 1)", "0=f(@0 1)", "true")]:
            self.does(op("==", "X", "Y", "Z"), 1, Y=y, Z=z, then={"X": expected})
            self.exactly(op("==", "X", "Y", "Z"), 1, Y=y, Z=z)

    def test_equal_waits(self):
        self.waits(op("==", "X", "Y", "Z"), "Y", room=0)
        self.waits(op("==", "X", "Y", "Z"), "Y", Z="1")
        self.waits(op("==", "X", "Y", "Z"), "Z", Y="1")
        self.waits(op("==", "X", "Y", "Y"), "Y")

    def compared(self, first, second):
        """The nodes that a comparison waits for, one after the other, each of which gets the atom a, and the result.

        In the trees the variables A, B, C, D are written as such.
        """
        names = "ABCD"
        made = []
        for k, value in enumerate((first, second)):
            made.append(self.written(value, "YZ"[k]))
        machine = make(seq(*made[0], *made[1], ("atom", "V", "go"), op("==", "X", "Y", "Z")), "X Y Z A B C D V")
        while machine.status(0) == "ready" and text(machine, 7) != "go":
            machine.step(0)
        found = []
        machine.step(0)
        while machine.status(0) == "waiting":
            index = machine.waits_for(0)
            self.assertEqual(machine.given(index), index)
            found.append(names[index - 3])
            bind(machine, index, "a")
            machine.step(0)
        return "".join(found), text(machine, 0)

    def written(self, value, name, depth=0):
        """The statements that make this variable the tuple; a value is a name or a tuple of a label and parts."""
        if isinstance(value, str):
            return [("bind", name, value)]
        rows, parts = [], []
        for k, part in enumerate(value[1:]):
            if isinstance(part, str):
                parts.append(part)
            else:
                parts.append(f"T{depth}{k}")
                rows.append((parts[-1], part))
        inner = [("tuple", name, value[0], tuple(parts))]
        for fresh, part in rows:
            inner.extend(self.written(part, fresh, depth + 1))
        return [local(" ".join(fresh for fresh, _ in rows), *inner)] if rows else inner

    def test_equal_level_by_level(self):
        f, g = "f", "g"
        self.assertEqual(self.compared((f, "A", "B"), (f, "C", "D")), ("ACBD", "true"))
        self.assertEqual(self.compared((f, (g, "A"), "B"), (f, (g, "C"), "D")), ("BDAC", "true"))
        self.assertEqual(self.compared((f, "A", (g, "B")), (f, "C", (g, "D"))), ("ACBD", "true"))
        self.assertEqual(self.compared((f, (g, "A"), (g, "B")), (f, (g, "B"), (g, "C"))), ("ABC", "true"))
        # The right one of a pair, although it is the left one of a later pair.
        self.assertEqual(self.compared((f, "A", "B"), (f, "B", "A")), ("AB", "true"))
        # The same variable on both sides.
        self.assertEqual(self.compared((f, "A", "B"), (f, "A", "B")), ("AB", "true"))
        # What differs in a level is found before the next one is looked at.
        self.assertEqual(self.compared((f, (g, "A"), (g, "B")), (f, (g, "C"), (f, "D"))), ("", "false"))
        self.assertEqual(self.compared((f, "A", (g, "B")), (f, "C", (f, "D"))), ("AC", "false"))
        self.assertEqual(self.compared((f, (f, "B"), "A"), (f, (g, "D"), "C")), ("", "false"))
        self.assertEqual(self.compared((f, "A"), (f, "A", "B")), ("", "false"))
        self.assertEqual(self.compared((f, (f, "B", (g, "A")), "C"), (f, (f, "B", (f, "A")), "D")), ("CDB", "false"))

    def test_equal_infinite_with_variables(self):
        statement = seq(("tuple", "Y", "f", ("Y", "U")), ("tuple", "Z", "f", ("Z", "V")), op("==", "X", "Y", "Z"))
        machine = steps(make(statement, "X Y Z U V"), 5)
        self.assertEqual(machine.waits_for(0), 3)
        bind(machine, 3, "7")
        machine.step(0)
        self.assertEqual(machine.waits_for(0), 4)
        other = machine.copy()
        bind(machine, 4, "7")
        bind(other, 4, "8")
        self.assertEqual((text(steps(machine, 1), 0), text(steps(other, 1), 0)), ("true", "false"))
        # The same node on both sides is looked through, too.
        machine = steps(make(seq(("tuple", "Y", "f", ("Y", "U")), op("==", "X", "Y", "Y")), "X Y U"), 3)
        self.assertEqual(machine.waits_for(0), 2)

    def test_equal_large(self):
        big = "f(" * 350 + "1" + ")" * 350
        self.does(op("==", "X", "Y", "Z"), 1, Y=big, Z=big, then={"X": "true"})
        self.does(op("==", "X", "Y", "Z"), 1, Y=big, Z=big.replace("1", "2"), then={"X": "false"})

    def test_equal_infinite(self):
        made = seq(("tuple", "Y", "f", ("Y",)), ("tuple", "Z", "f", ("U",)), ("tuple", "U", "f", ("Z",)))
        for sides in ("YZ", "ZY", "YU", "ZU", "YY"):
            machine = steps(make(seq(made, op("==", "X", *sides)), GIVEN), 7)
            self.assertEqual((machine.status(0), text(machine, 0)), ("done", "true"))
        made = seq(("tuple", "Y", "f", ("Y",)), ("tuple", "Z", "f", ("U",)), ("tuple", "U", "g", ("Z",)))
        for sides in ("YZ", "ZY", "YU", "ZU"):
            machine = steps(make(seq(made, op("==", "X", *sides)), GIVEN), 7)
            self.assertEqual((machine.status(0), text(machine, 0)), ("done", "false"))

    # Built-in procedures.

    def test_arity_comes_before_all_that_they_wait_for(self):
        counts = {"Wait": 1, "IsDet": 2, "NewCell": 2, "Exchange": 3, "NewPort": 2, "Send": 2, "Label": 2, "Width": 2,
                  "Part": 3}
        for name, many in counts.items():
            for passed in range(8):
                if passed != many:
                    self.raises(call(name, *["X"] * passed), "arity", 0, 0)
                    self.raises(call("U", *["X"] * passed), "arity", U=f"<builtin {list(counts).index(name)}>")

    def test_wait(self):
        self.waits(call("Wait", "X"), "X", room=0)
        self.does(call("Wait", "X"), 0, 0, X="f(_1)")
        self.does(call("U", "X"), 0, 0, X="1", U="<builtin 0>")

    def test_is_det(self):
        self.exactly(call("IsDet", "X", "Y"), 1)
        self.does(call("IsDet", "X", "Y"), 1, then={"X": "_0", "Y": "false"})
        self.does(call("IsDet", "X", "Y"), 1, X="f(_1)", then={"Y": "true"})
        self.does(call("IsDet", "X", "X"), 1, then={"X": "false"})
        self.raises(call("IsDet", "X", "Y"), "failure", 1, Y="true")
        self.raises(call("IsDet", "X", "Y"), "failure", 1, X="1", Y="false")
        self.raises(call("IsDet", "X", "Y"), "memory", 0, 0, Y="true")
        self.does(call("IsDet", "X", "Y"), 1, Y="false")

    def test_new_cell_and_new_port(self):
        for name, kind in (("NewCell", "cell"), ("NewPort", "port")):
            self.exactly(call(name, "X", "Y"), 1)
            self.does(call(name, "X", "Y"), 1, then={"X": "_0", "Y": f"<{kind} 0>"})
            self.raises(call(name, "X", "Y"), "failure", 1, Y="1")
            self.raises(call(name, "X", "Y"), "memory", 0, 0, Y="1")
            failing = ("try", call(name, "X", "U"), "E", SKIP)
            machine = make(seq(failing, call(name, "X", "Y"), call(name, "X", "Z")), GIVEN, U="1")
            steps(machine, 7)
            self.assertEqual(texts(machine, 1, 2), [f"<{kind} 1>", f"<{kind} 2>"])

    def test_numbers_go_by_their_kind(self):
        machine = make(seq(call("NewCell", "X", "X"), call("NewPort", "Y", "Y"), ("proc", "Z", (), SKIP)))
        steps(machine, 5)
        self.assertEqual(texts(machine, 0, 1, 2), ["<cell 0>", "<port 0>", "<proc 0>"])

    def cell(self, statement, room=None, held="1", **values):
        """Behind a step of the statement, where U is a cell that holds a value."""
        machine = make(local("C", ("bind", "C", "V"), call("NewCell", "C", "U"), statement), "X Y Z U V", None, V=held,
                       **values)
        steps(machine, 5)
        if room is not None:
            fill(machine, room)
        return steps(machine, 1)

    def test_exchange(self):
        self.waits(call("Exchange", "X", "Y", "Z"), "X", room=0)
        for value in ("1", "a", "f(1)", "<port 0>", "<proc 0>", "<cell 0>", "<builtin 3>", "cell", "cell(1)"):
            self.raises(call("Exchange", "X", "Y", "Z"), "type", 0, 0, X=value)
        machine = self.cell(call("Exchange", "U", "X", "Y"), 0)
        self.assertEqual((machine.status(0), texts(machine, 0, 1)), ("done", ["1", "_1"]))
        self.assertEqual(room_of(machine), 0)
        machine = self.cell(call("Exchange", "U", "X", "Y"), 0, X="2")
        self.assertEqual((machine.status(0), raised(machine)), ("broken", "failure"))

    def test_exchange_holds_the_new_value_only_if_it_went_well(self):
        read = call("Exchange", "U", "Z", "Z")
        machine = steps(self.cell(seq(call("Exchange", "U", "X", "Y"), read), Y="2"), 2)
        self.assertEqual(texts(machine, 0, 1, 2), ["1", "2", "2"])
        machine = self.cell(seq(("try", call("Exchange", "U", "X", "Y"), "E", SKIP), read), X="3", Y="2")
        steps(machine, 4)
        self.assertEqual((machine.status(0), texts(machine, 0, 1, 2)), ("done", ["3", "2", "1"]))

    def test_a_cell_holds_a_node(self):
        # What it holds may get its value later.
        statement = seq(call("NewCell", "X", "U"), call("Exchange", "U", "Y", "Z"), ("int", "X", 5))
        machine = steps(make(statement, GIVEN), 5)
        self.assertEqual(texts(machine, 0, 1), ["5", "5"])

    def test_send(self):
        self.waits(call("Send", "X", "Y"), "X", room=0)
        for value in ("1", "a", "f(1)", "<cell 0>", "<proc 0>", "<port 0>", "<builtin 5>", "port", "port(1)"):
            self.raises(call("Send", "X", "Y"), "type", 0, 0, X=value)
        statement = seq(call("NewPort", "X", "U"), call("Send", "U", "Y"), call("Send", "U", "Z"))
        machine = steps(make(statement, GIVEN), 3)
        before = size(machine)
        machine.step(0)
        # The variable is made first, then the tuple.
        self.assertEqual(size(machine), before + 2)
        self.assertEqual(text(machine, 0), f"cons(_1 _{before})")
        self.assertEqual(machine.graph(before + 1), machine.graph(0))
        machine.step(0)
        self.assertEqual(text(machine, 0), f"cons(_1 cons(_2 _{before + 2}))")

    def sent(self, room, **values):
        machine = make(seq(call("NewPort", "X", "U"), call("Send", "U", "Y")), GIVEN, None, **values)
        steps(machine, 2)
        fill(machine, room)
        return steps(machine, 1)

    def test_send_room(self):
        for room in (0, 1):
            for values in ({}, {"X": "1"}):
                machine = self.sent(room, **values)
                self.assertEqual((machine.status(0), raised(machine), room_of(machine)), ("broken", "memory", room))
        self.assertEqual(self.sent(2).status(0), "done")
        machine = self.sent(3, X="1")
        self.assertEqual((machine.status(0), raised(machine), room_of(machine)), ("broken", "failure", 1))

    def test_the_end_stays_behind_a_failure(self):
        caught = ("try", call("Send", "U", "Y"), "E", SKIP)
        sends = seq(call("Send", "U", "Z"), call("Send", "U", "Y"))
        machine = make(seq(call("NewPort", "X", "U"), caught, sends), GIVEN, X="cons(7 _1)", Y="8", Z="7")
        steps(machine, 9)
        self.assertEqual((machine.status(0), raised(machine)), ("done", None))
        self.assertRegex(text(machine, 0), r"^cons\(7 cons\(8 _[0-9]+\)\)$")

    def test_label_and_width(self):
        for name, results in (("Label", ["f", "g", "abc"]), ("Width", ["2", "6", "0"])):
            self.waits(call(name, "X", "Y"), "X", room=0)
            for value, result in zip(("f(1 _1)", "g(1 1 1 1 1 1)", "abc"), results):
                self.does(call(name, "X", "Y"), 1, X=value, then={"Y": result})
                self.exactly(call(name, "X", "Y"), 1, X=value)
                self.raises(call(name, "X", "Y"), "failure", 1, X=value, Y="zz")
                self.raises(call(name, "X", "Y"), "memory", 0, 0, X=value, Y="zz")
            for value in ("1", "<cell 0>", "<builtin 0>", "<abc 0>"):
                self.raises(call(name, "X", "Y"), "type", 0, 0, X=value)

    def test_part(self):
        part = call("Part", "X", "Y", "Z")
        self.waits(part, "X", room=0)
        self.waits(part, "X", Y="1")
        self.waits(part, "Y", X="f(1)")
        self.waits(part, "Y", room=0, X="a")
        self.waits(part, "X", room=0, Y="a")
        for x, y in [("a", "1"), ("1", "1"), ("<cell 0>", "1"), ("f(1)", "a"), ("f(1)", "f(1)"), ("f(1)", "<cell 1>"),
                     ("a", "a")]:
            self.raises(part, "type", 0, 0, X=x, Y=y)
        for x, y in [("f(1)", "0"), ("f(1)", "2"), ("f(1 1 1 1 1 1)", "7"), ("f(1)", "-1"), ("f(1)", "1000000000")]:
            self.raises(part, "arity", 0, 0, X=x, Y=y)
        for y in "123456":
            self.does(part, 0, 0, X="f(11 12 13 14 15 16)", Y=y, then={"Z": "1" + y})
        self.raises(part, "failure", 0, 0, X="f(1 2)", Y="2", Z="1")
        self.does(part, 0, 0, X="0=f(@0 2)", Y="1", Z="f(f(_1 _2) _2)", then={"Z": "0=f(@0 2)"})

    def test_the_part_is_the_node_itself(self):
        machine = steps(make(seq(call("Part", "X", "Y", "Z"), ("int", "Z", 9)), X="f(_1 _2)", Y="2"), 3)
        self.assertEqual(text(machine, 0), "f(_20 9)")


if __name__ == "__main__":
    unittest.main()
