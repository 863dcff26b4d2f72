import unittest

from leatwork import programs
from leatwork.errors import BadProgram
from leatwork.programs import BUILT_IN, check, is_declarative, uses
from tests.build import SKIP, call, deep, evenly, local, op, seq

GIVEN = ("X", "Y", "Z")
BIG, SMALL = 10 ** 9, -10 ** 9

GOOD = [
    SKIP, ("seq", SKIP, SKIP), ("local", "A", ("bind", "A", "X")), ("bind", "X", "X"),
    ("int", "X", 0), ("int", "X", BIG), ("int", "X", SMALL), ("atom", "X", "a"), ("atom", "X", "a0123456789z"),
    ("tuple", "X", "f", ("Y",)), ("tuple", "X", "f", ("Y", "Y", "Z", "X", "Wait", "Y")),
    ("proc", "X", (), SKIP), ("proc", "X", ("A", "B", "C", "D", "E", "F"), ("bind", "A", "F")),
    ("proc", "X", ("X",), ("bind", "X", "Y")),
    ("if", "X", SKIP, ("bind", "X", "Y")),
    ("case", "X", ("int", 0), SKIP, SKIP), ("case", "X", ("int", BIG), SKIP, SKIP),
    ("case", "X", ("int", SMALL), SKIP, SKIP), ("case", "X", ("atom", "a"), SKIP, SKIP),
    ("case", "X", ("tuple", "f", ("A",)), ("bind", "A", "X"), SKIP),
    ("case", "X", ("tuple", "f", ("A", "B", "C", "D", "E", "F")), ("bind", "A", "F"), ("bind", "X", "Y")),
    ("case", "X", ("tuple", "f", ("X", "Y")), ("bind", "X", "Y"), ("bind", "X", "Y")),
    ("call", "X", ()), ("call", "X", ("Y",) * 7), ("call", "Wait", ("Send",)),
    *[("op", sign, "X", "Y", "Z") for sign in ("+", "-", "*", "<", "==")], ("op", "+", "X", "X", "X"),
    ("thread", SKIP), ("need", "X", SKIP), ("try", SKIP, "A", ("raise", "A")), ("try", ("raise", "X"), "X", SKIP),
    ("raise", "X"), ("choose", SKIP, SKIP), ("int", "Wait", 1), ("raise", "Part"), ("bind", "IsDet", "Width"),
    ("local", "Aa0", ("local", "Aa0", ("bind", "Aa0", "Aa0"))), ("local", "A23456789012", SKIP),
    ("local", "P", ("proc", "P", ("A",), ("call", "P", ("A",)))),
]

# Not of the form, or an identifier that is not known, by itself and within each statement that has one inside.
BAD = [
    None, True, 0, "skip", "", (), [], ["skip"], (("skip",),), ("skip", "X"), ("skip", None), ("Skip",), ("jump",),
    (["skip"],), (None,), (0,), (True,), ((),), ("handler", "X", SKIP), ("",), ("skip", ()),
    ("seq", SKIP), ("seq", SKIP, SKIP, SKIP), ("seq", SKIP, None), ("seq", "skip", SKIP), ("seq", SKIP, ["skip"]),
    ("seq",), ["seq", SKIP, SKIP], ("seq", (SKIP, SKIP)),
    ("local", "A"), ("local", "a", SKIP), ("local", "", SKIP), ("local", "A234567890123", SKIP), ("local", "A_", SKIP),
    ("local", "0A", SKIP), ("local", "A b", SKIP), ("local", "\u00c4", SKIP), ("local", "A\u00e4", SKIP),
    ("local", "A\u0661", SKIP), ("local", "A\u00b2", SKIP), ("local", "A\n", SKIP), ("local", ("A",), SKIP),
    ("local", None, SKIP), ("local", 1, SKIP), ("local", ["A"], SKIP), ("local", SKIP, "A"), ("local", True, SKIP),
    *[("local", name, SKIP) for name in BUILT_IN],
    ("bind", "X"), ("bind", "X", "A"), ("bind", "A", "X"), ("bind", "X", "Y", "Z"), ("bind", "X", 1),
    ("bind", "X", ("Y",)), ("bind", ["X"], "Y"), ("bind", "x", "Y"), ("bind", "X", None), ("bind", "X", ""),
    ("int", "X", BIG + 1), ("int", "X", SMALL - 1), ("int", "X", True), ("int", "X", False), ("int", "X", None),
    ("int", "X", "1"), ("int", "X", "Y"), ("int", "A", 1), ("int", "X"), ("int", 1, "X"), ("int", "X", 1, 1),
    ("int", "X", (1,)), ("int", "X", [1]),
    ("atom", "X", ""), ("atom", "X", "A"), ("atom", "X", "1"), ("atom", "X", "a234567890123"), ("atom", "X", 1),
    ("atom", "X", None), ("atom", "X", ("a",)), ("atom", "A", "a"), ("atom", "X"), ("atom", "X", "a", "b"),
    ("atom", "X", "a\u00e4"), ("atom", "X", "a b"),
    ("tuple", "X", "f", ()), ("tuple", "X", "f", ("Y",) * 7), ("tuple", "X", "f", ["Y"]), ("tuple", "X", "f", "Y"),
    ("tuple", "X", "F", ("Y",)), ("tuple", "X", "f", ("A",)), ("tuple", "A", "f", ("X",)), ("tuple", "X", "f", (1,)),
    ("tuple", "X", ("Y",)), ("tuple", "X", "f", ("Y",), SKIP), ("tuple", "X", 1, ("Y",)), ("tuple", "X", "f", None),
    ("tuple", "X", "f", (("Y",),)), ("tuple", "X", "f", (["Y"],)),
    ("proc", "A", (), SKIP), ("proc", "X", ("A", "A"), SKIP), ("proc", "X", tuple("ABCDEFG"), SKIP),
    ("proc", "X", ["A"], SKIP), ("proc", "X", "A", SKIP), ("proc", "X", ("a",), SKIP), ("proc", "X", ("Wait",), SKIP),
    ("proc", "X", (), None), ("proc", "X", SKIP), ("proc", "X", (1,), SKIP), ("proc", "X", None, SKIP),
    ("proc", "X", (["A"],), SKIP), ("proc", "X", ("A",), ("bind", "A", "B")), ("proc", "X", ("A", "B", "A"), SKIP),
    ("proc", "A", ("A",), SKIP),
    ("if", "X", SKIP), ("if", "A", SKIP, SKIP), ("if", "X", SKIP, None), ("if", "X", None, SKIP), ("if", SKIP, SKIP),
    ("if", "X", SKIP, SKIP, SKIP),
    ("case", "X", ("int", BIG + 1), SKIP, SKIP), ("case", "X", ("int", SMALL - 1), SKIP, SKIP),
    ("case", "X", ("int", True), SKIP, SKIP), ("case", "X", ("int", None), SKIP, SKIP), ("case", "X", 1, SKIP, SKIP),
    ("case", "X", ("atom", "A"), SKIP, SKIP), ("case", "X", ("atom", 1), SKIP, SKIP), ("case", "X", (), SKIP, SKIP),
    ("case", "X", ("tuple", "f", ()), SKIP, SKIP), ("case", "X", ("tuple", "f", tuple("ABCDEFG")), SKIP, SKIP),
    ("case", "X", ("tuple", "f", ("A", "A")), SKIP, SKIP), ("case", "X", ("tuple", "F", ("A",)), SKIP, SKIP),
    ("case", "X", ("tuple", "f", ["A"]), SKIP, SKIP), ("case", "X", ("tuple", "f", ("Wait",)), SKIP, SKIP),
    ("case", "X", ("tuple", "f", "A"), SKIP, SKIP), ("case", "X", ("tuple", "f", ("a",)), SKIP, SKIP),
    ("case", "X", ("var", 1), SKIP, SKIP), ("case", "X", ("name", "a", 1), SKIP, SKIP), ("case", "X", None, SKIP, SKIP),
    ("case", "X", ["int", 1], SKIP, SKIP), ("case", "X", ("int", 1, 1), SKIP, SKIP), ("case", "X", "a", SKIP, SKIP),
    ("case", "X", (["int"], 1), SKIP, SKIP), ("case", "X", ("tuple", "f"), SKIP, SKIP),
    ("case", "X", ("int",), SKIP, SKIP), ("case", "X", ("int", 1), SKIP), ("case", "A", ("int", 1), SKIP, SKIP),
    ("case", "X", ("atom", "a", "b"), SKIP, SKIP), ("case", "X", ("tuple", 1, ("A",)), SKIP, SKIP),
    ("case", "X", ("tuple", "f", ("A",)), SKIP, ("bind", "A", "X")),
    ("case", "A", ("tuple", "f", ("A",)), SKIP, SKIP), ("case", "X", ("tuple", "f", ("A",)), None, SKIP),
    ("case", "X", ("int", 1), SKIP, None), ("case", "X", ("tuple", "f", (1,)), SKIP, SKIP),
    ("case", "X", ("tuple", "f", (["A"],)), SKIP, SKIP), ("case", "X", ("tuple", "f", ("A",), ()), SKIP, SKIP),
    ("call", "X"), ("call", "X", ("Y",) * 8), ("call", "X", ["Y"]), ("call", "X", "Y"), ("call", "A", ()),
    ("call", "X", ("A",)), ("call", "X", (1,)), ("call", ("X",), ()), ("call", "X", None), ("call", "X", (None,)),
    ("call", "X", (), ()), ("call", "wait", ()),
    ("op", "/", "X", "Y", "Z"), ("op", "", "X", "Y", "Z"), ("op", "+-", "X", "Y", "Z"), ("op", "=", "X", "Y", "Z"),
    ("op", None, "X", "Y", "Z"), ("op", ["+"], "X", "Y", "Z"), ("op", "+", "X", "Y"), ("op", "+", "A", "Y", "Z"),
    ("op", "+", "X", "A", "Z"), ("op", "+", "X", "Y", "A"), ("op", "+", "X", "Y", 1), ("op", "+", "X", "Y", "Z", "X"),
    ("op", 1, "X", "Y", "Z"), ("op", ("+",), "X", "Y", "Z"), ("op", "X", "Y", "Z"), ("op", ">", "X", "Y", "Z"),
    ("thread",), ("thread", SKIP, SKIP), ("thread", None), ("thread", "X"), ("thread", []),
    ("need", "X"), ("need", "A", SKIP), ("need", "X", None), ("need", SKIP), ("need", "X", SKIP, SKIP),
    ("try", SKIP, "A"), ("try", SKIP, "a", SKIP), ("try", SKIP, "Wait", SKIP), ("try", ("raise", "A"), "A", SKIP),
    ("try", SKIP, "A", ("raise", "B")), ("try", None, "A", SKIP), ("try", SKIP, "A", None), ("try", "A", SKIP, SKIP),
    ("try", SKIP, ("A",), SKIP), ("try", SKIP, "A", SKIP, SKIP),
    ("raise",), ("raise", "A"), ("raise", 1), ("raise", ("X",)), ("raise", "X", "Y"), ("raise", "failure"),
    ("choose", SKIP), ("choose", SKIP, None), ("choose", None, SKIP), ("choose", SKIP, SKIP, SKIP),
    ("local", "A", ("local", "B", ("bind", "B", "C"))), ("seq", ("local", "A", SKIP), ("bind", "A", "X")),
]


def around(statement):
    """The statement within each kind of statement that has one inside, at each place."""
    for word in ("seq", "choose"):
        yield (word, statement, SKIP)
        yield (word, SKIP, statement)
    yield ("local", "Q", statement)
    yield ("proc", "X", ("Q",), statement)
    yield ("if", "X", statement, SKIP)
    yield ("if", "X", SKIP, statement)
    yield ("case", "X", ("int", 1), statement, SKIP)
    yield ("case", "X", ("tuple", "f", ("Q",)), statement, SKIP)
    yield ("case", "X", ("tuple", "f", ("Q",)), SKIP, statement)
    yield ("thread", statement)
    yield ("need", "X", statement)
    yield ("try", statement, "Q", SKIP)
    yield ("try", SKIP, "Q", statement)


class Check(unittest.TestCase):

    def good(self, program):
        self.assertIs(check(program), None, program)

    def bad(self, program):
        with self.assertRaises(BadProgram, msg=program):
            check(program)

    def test_built_in(self):
        self.assertEqual(BUILT_IN, (
            "Wait", "IsDet", "NewCell", "Exchange", "NewPort", "Send", "Label", "Width", "Part"))

    def test_good_statements(self):
        for statement in GOOD:
            self.good((GIVEN, statement))
            for larger in around(statement):
                self.good((GIVEN, larger))

    def test_bad_statements(self):
        for statement in BAD:
            self.bad((GIVEN, statement))
            for larger in around(statement):
                self.bad((GIVEN, larger))

    def test_programs_of_the_wrong_form(self):
        for value in [None, True, 1, "", "ab", (), [], (GIVEN,), [GIVEN, SKIP], (GIVEN, SKIP, SKIP), SKIP,
                      (list(GIVEN), SKIP), ("X", SKIP), (None, SKIP), (SKIP, GIVEN), (1, SKIP), ((GIVEN,), SKIP)]:
            self.bad(value)

    def test_given_variables(self):
        names = tuple(f"X{k}" for k in range(13))
        for many in (0, 1, 12):
            self.good((names[:many], SKIP))
        self.bad((names, SKIP))
        for given in [("X", "X"), ("X", "Y", "X"), ("x",), ("",), ("X", 1), ("X", None), (("X",),), (["X"],), (True,),
                      ("A234567890123",), ("Wait",), ("X", "Part"), ("X ",), ("0",), ("a",)]:
            self.bad((given, SKIP))
        self.good((("A23456789012", "A", "Aa", "AA"), ("bind", "Aa", "AA")))

    def test_each_given_variable_and_no_other_is_known(self):
        self.good((("X",), ("raise", "X")))
        self.bad(((), ("raise", "X")))
        self.bad((("X",), ("raise", "Y")))

    def test_what_is_known_where(self):
        self.good(((), ("local", "A", ("bind", "A", "A"))))
        self.bad(((), ("seq", ("local", "A", SKIP), ("raise", "A"))))
        self.bad(((), ("seq", ("raise", "A"), ("local", "A", SKIP))))
        self.good(((), ("try", SKIP, "A", ("raise", "A"))))
        self.bad(((), ("try", ("raise", "A"), "A", SKIP)))
        self.good((("X",), ("case", "X", ("tuple", "f", ("A", "B")), ("bind", "A", "B"), SKIP)))
        self.bad((("X",), ("case", "X", ("tuple", "f", ("A", "B")), SKIP, ("bind", "A", "B"))))
        self.good(((), local("P", ("proc", "P", ("A",), ("bind", "A", "P")))))
        self.bad(((), local("P", seq(("proc", "P", ("A",), SKIP), ("raise", "A")))))
        self.bad(((), ("proc", "P", ("P",), ("raise", "P"))))

    def test_depth(self):
        for word in ("thread", "seq", "choose"):
            for many, accepted in [(1, True), (29, True), (30, True), (31, False), (32, False), (200, False)]:
                statement = SKIP
                for k in range(many - 1):
                    rest = () if word == "thread" else (SKIP,)
                    statement = (word, *((statement, *rest) if k % 2 else (*rest, statement)))
                with self.subTest(word=word, many=many):
                    (self.good if accepted else self.bad)(((), statement))
        self.good(((), local(" ".join(["A"] * 29), SKIP)))
        self.bad(((), local(" ".join(["A"] * 30), SKIP)))
        self.good((("X",), deep(29, ("case", "X", ("tuple", "f", ("A",)), SKIP, SKIP))))
        self.bad((("X",), deep(30, ("case", "X", ("tuple", "f", ("A",)), SKIP, SKIP))))

    def test_very_deep_values(self):
        self.bad(((), deep(100000)))
        value = ()
        for _ in range(100000):
            value = (value,)
        for program in [value, (value, SKIP), ((value,), SKIP), ((), value), (("X",), ("call", "X", value)),
                        (("X",), ("case", "X", value, SKIP, SKIP)), (("X",), ("int", "X", value))]:
            # The message of a failure would need deep recursion.
            with self.assertRaises(BadProgram):
                check(program)

    def test_number_of_statements(self):
        for many, accepted in [(1, True), (199, True), (200, True), (201, False), (202, False), (1000, False)]:
            # n of them make 2 n - 1 with the seq around.
            statement = evenly([SKIP] * ((many + 1) // 2))
            if many % 2 == 0:
                statement = ("thread", statement)
            with self.subTest(many=many):
                (self.good if accepted else self.bad)(((), statement))

    def test_one_statement_at_very_many_places(self):
        statement = SKIP
        for _ in range(29):
            statement = ("seq", statement, statement)
        self.bad(((), statement))
        for many, accepted in [(6, True), (7, False)]:
            statement = SKIP
            for _ in range(many):
                statement = ("seq", statement, statement)
            # 2 ** 7 - 1 and 2 ** 8 - 1 statements
            (self.good if accepted else self.bad)(((), statement))

    def test_values_stay_as_they_are(self):
        value = (["X"], ["seq", [SKIP], {}.get(1)])
        self.bad(value)
        self.assertEqual(value, (["X"], ["seq", [("skip",)], None]))
        value = (("X",), ("call", "X", ["X"]))
        self.bad(value)
        self.assertEqual(value, (("X",), ("call", "X", ["X"])))


class Uses(unittest.TestCase):

    def test_each_kind(self):
        for statement, expected in [
                (SKIP, []), (("seq", ("raise", "B"), ("raise", "A")), ["A", "B"]), (("bind", "B", "A"), ["A", "B"]),
                (("bind", "A", "A"), ["A"]), (("int", "A", 1), ["A"]), (("atom", "A", "a"), ["A"]),
                (("tuple", "C", "f", ("B", "A", "B")), ["A", "B", "C"]),
                (("proc", "C", ("B",), ("tuple", "B", "f", ("A", "D"))), ["A", "C", "D"]),
                (("proc", "C", ("C",), ("raise", "C")), ["C"]), (("proc", "C", ("B",), SKIP), ["C"]),
                (("if", "C", ("raise", "B"), ("raise", "A")), ["A", "B", "C"]),
                (("case", "C", ("int", 1), ("raise", "B"), ("raise", "A")), ["A", "B", "C"]),
                (("case", "C", ("tuple", "f", ("A", "B")), ("raise", "B"), ("raise", "A")), ["A", "C"]),
                (("case", "C", ("tuple", "f", ("A", "C")), ("raise", "C"), SKIP), ["C"]),
                (("call", "C", ("B", "A")), ["A", "B", "C"]), (("call", "Wait", ("B", "Part")), ["B"]),
                (("op", "+", "C", "A", "B"), ["A", "B", "C"]), (("thread", ("raise", "A")), ["A"]),
                (("need", "B", ("raise", "A")), ["A", "B"]), (("local", "A", ("bind", "A", "B")), ["B"]),
                (("local", "A", SKIP), []), (("seq", ("local", "A", ("raise", "A")), ("raise", "A")), ["A"]),
                (("try", ("bind", "A", "B"), "A", ("bind", "A", "C")), ["A", "B", "C"]),
                (("try", ("raise", "B"), "A", ("bind", "A", "C")), ["B", "C"]),
                (("choose", ("raise", "B"), ("raise", "A")), ["A", "B"])]:
            with self.subTest(statement=statement):
                self.assertEqual(uses(statement), expected)

    def test_ascending_as_strings(self):
        names = ("B", "Ab", "AB", "A1", "A", "Z9", "A10")
        self.assertEqual(uses(("call", "A2", names)), ["A", "A1", "A10", "A2", "AB", "Ab", "B", "Z9"])

    def test_a_new_list_each_time(self):
        statement = ("bind", "A", "B")
        uses(statement).append("C")
        self.assertEqual(uses(statement), ["A", "B"])

    def test_good_exactly_if_the_uses_are_known(self):
        for statement in GOOD:
            check((tuple(uses(statement)), statement))
            for k in range(len(uses(statement))):
                with self.assertRaises(BadProgram):
                    check((tuple(uses(statement)[:k] + uses(statement)[k + 1:]), statement))


class IsDeclarative(unittest.TestCase):

    def test_statements(self):
        for statement in GOOD:
            text = repr(statement)
            expected = not any(f"'{word}'" in text for word in (
                "try", "choose", "IsDet", "NewCell", "Exchange", "NewPort", "Send"))
            self.assertIs(is_declarative((GIVEN, statement)), expected)
            for larger in around(statement):
                self.assertIs(is_declarative((GIVEN, larger)), expected and "try" not in larger and (
                    "choose" not in larger))

    def test_built_in_procedures_at_any_place(self):
        for name in BUILT_IN:
            expected = name in ("Wait", "Label", "Width", "Part")
            for statement in [call(name), call("X", "Y", name), ("bind", "X", name), ("bind", name, "X"),
                              ("tuple", "X", "f", ("Y", name)), op("==", "X", name, "Y"), ("raise", name),
                              ("int", name, 1), ("if", name, SKIP, SKIP), ("need", name, SKIP),
                              ("proc", "X", ("A",), call(name, "A")), ("proc", name, (), SKIP),
                              ("case", name, ("int", 1), SKIP, SKIP)]:
                with self.subTest(statement=statement):
                    self.assertIs(is_declarative((GIVEN, statement)), expected)

    def test_names_that_are_only_alike(self):
        self.assertIs(is_declarative((("Sends", "Cell"), ("seq", ("atom", "Sends", "try"), ("raise", "Cell")))), True)
        self.assertIs(is_declarative((("X",), ("tuple", "X", "choose", ("X",)))), True)


class Constants(unittest.TestCase):

    def test_a_tuple(self):
        self.assertIs(type(programs.BUILT_IN), tuple)


if __name__ == "__main__":
    unittest.main()
