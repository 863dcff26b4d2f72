"""What code is (point 31)."""

import unittest

from leatwork.codes import compiled, is_code
from tests import agreeing, drawn, drawn_code

END = ("end",)
# Three units: a given of 0, one of 3, and one of 7.
OTHERS = ((3, 3, (END,)), (7, 9, (END,)))


def unit(*rows, given=0, registers=10):
    return (given, registers, (*rows, END))


def code(*rows, given=0, registers=10):
    """Code whose unit 0 has these instructions and `end`."""
    return (unit(*rows, given=given, registers=registers), *OTHERS)


# Each instruction, at its edges, at index 0 in a unit of ten registers; `end` is at index 1.
GOOD = [
    ("new", 0), ("new", 9), ("builtin", 0, 0), ("builtin", 9, 8), ("copy", 0, 9), ("copy", 3, 3), ("bind", 9, 0),
    ("int", 0, 10 ** 9), ("int", 9, -10 ** 9), ("int", 1, 0), ("atom", 0, "a"), ("atom", 9, "a12345678901"),
    ("tuple", 0, "f", (9,)), ("tuple", 0, "f", (0, 0, 0, 0, 0, 0)), ("proc", 0, 0, 0, ()), ("proc", 9, 1, 3, ()),
    ("proc", 0, 1, 0, (0, 9, 0)), ("proc", 0, 1, 2, (1,)), ("proc", 0, 2, 6, (1,)), ("proc", 0, 2, 0, (1,) * 7),
    ("if", 0, 1), ("if", 9, 1), ("caseint", 0, 10 ** 9, 1), ("caseint", 9, -10 ** 9, 1), ("caseatom", 0, "true", 1),
    ("casetuple", 0, "f", (0,), 1), ("casetuple", 9, "f", (5, 4, 3, 2, 1, 0), 1), ("call", 0, ()),
    ("call", 9, (9,) * 7),
    ("op", "+", 0, 1, 2), ("op", "-", 9, 9, 9), ("op", "*", 0, 0, 0), ("op", "<", 0, 0, 9), ("op", "==", 1, 1, 1),
    ("thread", 0, ()), ("thread", 1, (9, 9, 0)), ("thread", 2, (0,) * 7), ("need", 0, 0, ()), ("need", 9, 1, (1, 2, 3)),
    ("try", 1, 0), ("try", 1, 9), ("untry",), ("raise", 0), ("raise", 9), ("choose", 1), ("jump", 1), END,
]

# The same, with something wrong.
BAD = [
    (), ("skip",), ("End",), ("end", 0), ("end", None), ("halt",), ("newvar", 0), (None,), (0,), (("new", 0),),
    ("new",), ("new", 10), ("new", -1), ("new", True), ("new", "0"), ("new", None), ("new", (0,)), ("new", 0, 0),
    ("builtin", 0, 9), ("builtin", 0, -1), ("builtin", 0, False), ("builtin", 0, "Wait"), ("builtin", 10, 0),
    ("copy", 0), ("copy", 0, 10), ("copy", 10, 0), ("copy", 0, False), ("bind", 0, -1), ("bind", 10, 0),
    ("bind", 0, ()),
    ("int", 0, 10 ** 9 + 1), ("int", 0, -10 ** 9 - 1), ("int", 0, True), ("int", 0, "1"), ("int", 10, 1), ("int", 0),
    ("atom", 0, ""), ("atom", 0, "A"), ("atom", 0, "1a"), ("atom", 0, "a123456789012"), ("atom", 0, 1),
    ("atom", 10, "a"),
    ("atom", 0, "a b"), ("atom", 0, None), ("atom", 0, ("a",)),
    ("tuple", 0, "f", ()), ("tuple", 0, "f", (0,) * 7), ("tuple", 0, "f", (10,)), ("tuple", 0, "f", (True,)),
    ("tuple", 0, "f", [0]), ("tuple", 0, "F", (0,)), ("tuple", 10, "f", (0,)), ("tuple", 0, "f", 0), ("tuple", 0, (0,)),
    ("tuple", 0, "f", "ab"), ("tuple", 0, 1, (0,)),
    ("proc", 0, 3, 0, ()), ("proc", 0, -1, 0, ()), ("proc", 0, True, 3, ()), ("proc", 10, 1, 3, ()),
    ("proc", 0, 1, 2, ()), ("proc", 0, 1, 4, ()), ("proc", 0, 1, 3, (0,)), ("proc", 0, 1, -1, (0,) * 4),
    ("proc", 0, 2, 7, ()), ("proc", 0, 1, True, (0, 0)), ("proc", 0, 1, 2, (10,)), ("proc", 0, 1, 2, (False,)),
    ("proc", 0, 1, 2, [0]), ("proc", 0, 1, 3), ("proc", 0, 1, None, ()), ("proc", 0, 0, 0, None),
    ("if", 0, 0), ("if", 0, 2), ("if", 10, 1), ("if", 0, -1), ("if", 0, True), ("if", 0, None), ("if", 1),
    ("if", True, 1),
    ("caseint", 0, 10 ** 9 + 1, 1), ("caseint", 0, -10 ** 9 - 1, 1), ("caseint", 0, "a", 1), ("caseint", 0, 1, 0),
    ("caseint", 0, 1, 2), ("caseint", 10, 1, 1), ("caseint", 0, True, 1), ("caseint", 0, 1), ("caseint", 0, 1, True),
    ("caseatom", 0, 1, 1), ("caseatom", 0, "A", 1), ("caseatom", 0, "a", 0), ("caseatom", 0, "a", 2),
    ("caseatom", 10, "a", 1),
    ("casetuple", 0, "f", (), 1), ("casetuple", 0, "f", (0, 1, 2, 3, 4, 5, 6), 1), ("casetuple", 0, "f", (1, 1), 1),
    ("casetuple", 0, "f", (1, 2, 1), 1), ("casetuple", 0, "f", (10,), 1), ("casetuple", 0, "f", (0,), 0),
    ("casetuple", 0, "f", (0,), 2), ("casetuple", 0, "f", [0], 1), ("casetuple", 0, "", (0,), 1),
    ("casetuple", 10, "f", (0,), 1),
    ("casetuple", 0, "f", (False,), 1), ("casetuple", 0, "f", ([],), 1), ("casetuple", 0, "f", 0, 1),
    ("call", 0), ("call", 0, (0,) * 8), ("call", 0, (10,)), ("call", 10, ()), ("call", 0, [0]), ("call", 0, 0),
    ("call", 0, (True,)), ("call", True, ()), ("call", 0, None),
    ("op", "/", 0, 1, 2), ("op", "=", 0, 1, 2), ("op", "", 0, 1, 2), ("op", None, 0, 1, 2), ("op", "+", 0, 1),
    ("op", "+", 10, 0, 0),
    ("op", "+", 0, 10, 0), ("op", "+", 0, 0, 10), ("op", "+", 0, 0, True), ("op", ("+",), 0, 0, 0),
    ("op", ["+"], 0, 0, 0),
    ("thread", 3, ()), ("thread", 1, ()), ("thread", 1, (0, 0)), ("thread", 1, (0,) * 4), ("thread", 0, (0,)),
    ("thread", 1, (0, 0, 10)), ("thread", 1, [0, 0, 0]), ("thread", False, ()), ("thread", -1, (0,) * 7),
    ("thread", 1, (0, 0, True)),
    ("need", 0, 3, ()), ("need", 0, 1, (0, 0)), ("need", 0, 1, (0,) * 4), ("need", 10, 0, ()), ("need", 0, 0),
    ("need", 0, False, ()),
    ("need", 0, 1, [0, 0, 0]), ("need", True, 0, ()),
    ("try", 0, 0), ("try", 2, 0), ("try", 1, 10), ("try", 1), ("try", True, 0), ("try", 1, False), ("try", -1, 0),
    ("untry", 0), ("raise",), ("raise", 10), ("raise", True), ("raise", ()), ("choose",), ("choose", 0), ("choose", 2),
    ("choose", True), ("choose", 1, 1), ("jump",), ("jump", 0), ("jump", 2), ("jump", -1), ("jump", True),
    ("jump", "1"),
    None, True, 0, "end", ["end"], ["new", 0], (["new"], 0), [],
]


def changed(value, is_inside=False):
    """Values in which one part of a value is another one: a list for a tuple, True for a number, another word."""
    if isinstance(value, tuple):
        yield list(value)
        if not is_inside:
            yield value + (0,)
            yield value[:-1]
        for k, part in enumerate(value):
            for other in changed(part, True):
                yield value[:k] + (other,) + value[k + 1:]
    elif isinstance(value, int):
        yield from (value == 1, str(value), None, (value,))
    else:
        yield from (value.upper() + "A", None, 0, (value,), value + " ")


class Instructions(unittest.TestCase):

    def test_good_ones(self):
        for row in GOOD:
            with self.subTest(row=row):
                self.assertIs(is_code(code(row)), True)

    def test_bad_ones(self):
        for row in BAD:
            with self.subTest(row=row):
                self.assertIs(is_code(code(row)), False)

    def test_every_word_is_there(self):
        self.assertEqual(len({row[0] for row in GOOD}), 22)

    def test_one_part_changed(self):
        for row in GOOD:
            for other in changed(row):
                with self.subTest(row=row, other=other):
                    self.assertIs(is_code(code(other)), False)

    def test_jumps(self):
        rows = [("new", 0), ("new", 1), ("new", 2)]
        for k in range(-1, 7):
            for place in range(4):
                for made in [("jump", k), ("if", 0, k), ("choose", k), ("try", k, 0), ("caseint", 0, 1, k),
                             ("caseatom", 0, "a", k), ("casetuple", 0, "f", (1,), k)]:
                    there = [*rows[:place], made, *rows[place:]]
                    # `end` is at index 4.
                    self.assertIs(is_code(code(*there)), place < k <= 4, (place, made))

    def test_registers_are_those_of_the_unit(self):
        for registers in (1, 2, 2000):
            for r in (0, registers - 1, registers, registers + 1):
                self.assertIs(is_code(code(("new", r), registers=registers)), r < registers)
        self.assertIs(is_code(code(("new", 0), registers=0)), False)
        self.assertIs(is_code((unit(given=0, registers=0), unit(("new", 8), registers=9))), True)
        self.assertIs(is_code((unit(given=0, registers=9), unit(("new", 8), registers=8))), False)

    def test_the_unit_may_be_its_own_or_a_later_or_an_earlier_one(self):
        for u in (0, 1, 2):
            row = ("thread", u, (0,) * u)
            units = [unit(row, given=k, registers=5) for k in range(3)]
            self.assertIs(is_code(tuple(units)), True)

    def test_long_captures(self):
        """The length of rs is only bounded by the given of the unit."""
        for many in (6, 7, 1000, 1994, 2000):
            big = unit(given=many, registers=2000)
            self.assertIs(is_code((unit(("proc", 0, 1, 0, (0,) * many)), big)), True)
            self.assertIs(is_code((unit(("proc", 0, 1, 6, (0,) * (many - 6))), big)), True)
            self.assertIs(is_code((unit(("thread", 1, (0,) * many)), big)), True)
            self.assertIs(is_code((unit(("thread", 1, (0,) * (many - 1))), big)), False)
            self.assertIs(is_code((unit(("need", 0, 1, (0,) * (many + 1))), big)), False)


class Units(unittest.TestCase):

    def test_numbers_of_units(self):
        for many in (1, 2, 249, 250):
            self.assertIs(is_code((unit(),) * many), True)
        for many in (0, 251, 300):
            self.assertIs(is_code((unit(),) * many), False)

    def test_given_and_registers(self):
        for given, registers in [(0, 0), (0, 1), (1, 1), (0, 2000), (2000, 2000), (1999, 2000), (12, 13)]:
            self.assertIs(is_code(((given, registers, (END,)),)), True)
        for given, registers in [(1, 0), (-1, 0), (0, 2001), (2001, 2001), (2001, 2000), (0, -1), (-1, -1), (False, 0),
                                 (0, True),
                                 (0, False), (True, 1), (None, 0), (0, None), ("0", 0), ((), 0), (0, (1,))]:
            self.assertIs(is_code(((given, registers, (END,)),)), False, (given, registers))

    def test_numbers_of_instructions(self):
        for many in (1, 2, 4999, 5000):
            self.assertIs(is_code((unit(*[("new", 0)] * (many - 1)),)), True)
        for many in (5001, 6000):
            self.assertIs(is_code((unit(*[("new", 0)] * (many - 1)),)), False)
        self.assertIs(is_code(((0, 1, ()),)), False)

    def test_another_end(self):
        for last in [("new", 0), ("untry",), ("jump", 2), ("end", 0), ["end"], "end", ("End",), ("end ",),
                     ("raise", 0), None, ()]:
            self.assertIs(is_code(((0, 1, (("new", 0), last)),)), False, last)
        self.assertIs(is_code(((0, 1, (END, ("new", 0), END)),)), True)
        self.assertIs(is_code(((0, 1, (END, END)),)), True)

    def test_other_forms(self):
        for value in [None, True, False, 0, 1, "", "code", (), [], [unit()], (unit(), None), (None,), (True,), ((),),
                      ([],), ("abc",),
                      ((0, 0),), ((0, 0, (END,), 0),), ([0, 0, (END,)],), ((0, 0, [END]),), ((0, 0, END),),
                      ((0, 0, None),),
                      ((0, 0, "end"),), ((0, (END,), 0),), (((0, 0, (END,)),),), (((END,),),), (0, 0, (END,)),
                      ((0, 0, ((END,),)),),
                      (unit(), [0, 0, (END,)]), ((0, 0, (["end"],)),), unit()]:
            self.assertIs(is_code(value), False, value)

    def test_something_is_wrong_in_a_later_unit(self):
        for place in range(4):
            units = [unit(given=1, registers=1) for _ in range(4)]
            units[place] = unit(("new", 1), given=1, registers=1)
            self.assertIs(is_code(tuple(units)), False)

    def test_nothing_is_changed(self):
        inner = ["new", [0]]
        value = (unit(inner, ("tuple", 0, "f", [0])), [unit()])
        text = repr(value)
        self.assertIs(is_code(value), False)
        self.assertEqual(repr(value), text)

    def test_drawn_code_with_one_part_changed(self):
        for seed in range(6):
            found = drawn_code.code(seed, 6)
            self.assertIs(is_code(found), True)
            for u, (given, registers, rows) in enumerate(found):
                for k, row in enumerate(rows):
                    for other in changed(row):
                        there = (given, registers, (*rows[:k], other, *rows[k + 1:]))
                        self.assertIs(is_code((*found[:u], there, *found[u + 1:])), False, other)

    def test_compiled(self):
        for program in agreeing.programs(range(40), 20) + [drawn.program(5, 10)]:
            self.assertIs(is_code(compiled(program)), True)


if __name__ == "__main__":
    unittest.main()
