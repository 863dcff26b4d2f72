"""The search for all solutions (points 37 and 38)."""

import random
import unittest

from leatwork.errors import TooMany
from leatwork.machine import Machine
from leatwork.programs import check
from leatwork.schedules import all_outcomes, run
from leatwork.search import MOST_KNOTS, first_solution, replayed, shape, solutions
from tests import drawn
from tests.agreeing import is_good
from tests.build import SKIP, call, evenly, local, op, seq
from tests.machines import statuses

FAILING = seq(("int", "X", 1), ("int", "X", 2))
ENDLESS = local("P", ("proc", "P", (), call("P")), call("P"))


def choices(*statements):
    """One of the statements, by choices one inside of the other."""
    if len(statements) == 1:
        return statements[0]
    return ("choose", statements[0], choices(*statements[1:]))


def made(name, *values):
    return choices(*[("int", name, value) for value in values])


def again(first, second):
    """A procedure that chooses again and again, where `call` stands for itself."""
    return local("P", ("proc", "P", (), ("choose", first, second)), call("P"))


def program_of(statement, given="X Y Z"):
    program = (tuple(given.split()), statement)
    check(program)
    return program


def plain_tree(program, most=2000):
    """The nodes of the search tree by the words of point 37: lists of a path, a status and an outcome, in order."""
    found = []
    todo = [((), Machine(program))]
    while todo:
        path, machine = todo.pop()
        run(machine, [])
        there = statuses(machine)
        status = next((word for word, one in [("limit", "ready"), ("failed", "broken"), ("choosing", "choosing"),
                                              ("waiting", "waiting")] if one in there), "done")
        found.append((path, status, machine.outcome()))
        if len(found) > most:
            return None
        if status == "choosing":
            for second in (True, False):
                child = machine.copy()
                child.choose(there.index("choosing"), second)
                todo.append((path + (second,), child))
    return found


def plain_shape(tree, path=()):
    status = next(status for other, status, _ in tree if other == path)
    if status == "choosing":
        return "(" + plain_shape(tree, path + (False,)) + plain_shape(tree, path + (True,)) + ")"
    return status[0]


def in_threads(*statements):
    """Each in a thread of its own."""
    return evenly([("thread", statement) for statement in statements])


class Small(unittest.TestCase):

    def gives(self, statement, expected_shape, expected):
        """`expected` has the paths of the solutions, as strings of s and t, and the texts of X and Y there."""
        program = program_of(statement)
        self.assertEqual(shape(program), expected_shape)
        found = solutions(program)
        self.assertEqual([("".join("st"[second] for second in path), *outcome[0][:2]) for path, outcome in found],
                         expected)
        for path, outcome in found:
            self.assertEqual(outcome[1], ())
            self.assertEqual(replayed(program, path), ("done", outcome))
            self.assertEqual(set(map(type, path)) <= {bool}, True)
        self.assertEqual(first_solution(program), found[0] if found else None)

    def test_no_choices(self):
        self.gives(SKIP, "d", [("", "_0", "_1")])
        self.gives(("int", "X", 5), "d", [("", "5", "_0")])
        self.gives(FAILING, "f", [])
        self.gives(call("Wait", "X"), "w", [])
        self.gives(ENDLESS, "l", [])

    def test_one_choice(self):
        self.gives(made("X", 1, 2), "(dd)", [("s", "1", "_0"), ("t", "2", "_0")])
        self.gives(("choose", FAILING, ("int", "X", 2)), "(fd)", [("t", "2", "_0")])
        self.gives(("choose", ("int", "X", 2), call("Wait", "Y")), "(dw)", [("s", "2", "_0")])
        self.gives(("choose", ENDLESS, SKIP), "(ld)", [("t", "_0", "_1")])
        self.gives(("choose", FAILING, call("Wait", "X")), "(fw)", [])

    def test_one_after_the_other(self):
        self.gives(seq(made("X", 1, 2), made("Y", 3, 4)), "((dd)(dd))",
                   [("ss", "1", "3"), ("st", "1", "4"), ("ts", "2", "3"), ("tt", "2", "4")])
        self.gives(seq(made("X", 1, 2), ("int", "X", 2), made("Y", 3, 4)), "(f(dd))",
                   [("ts", "2", "3"), ("tt", "2", "4")])
        self.gives(seq(made("X", 1, 2), made("X", 2, 3)), "((ff)(df))", [("ts", "2", "_0")])

    def test_one_inside_of_the_other(self):
        self.gives(made("X", 1, 2, 3, 4), "(d(d(dd)))", [("s", "1", "_0"), ("ts", "2", "_0"), ("tts", "3", "_0"),
                                                         ("ttt", "4", "_0")])
        self.gives(("choose", ("choose", FAILING, SKIP), ("choose", SKIP, FAILING)), "((fd)(df))",
                   [("st", "_0", "_1"), ("ts", "_0", "_1")])
        self.gives(("choose", ("choose", ("choose", SKIP, SKIP), FAILING), ENDLESS), "(((dd)f)l)",
                   [("sss", "_0", "_1"), ("sst", "_0", "_1")])

    def test_in_several_threads(self):
        # The thread with the least number chooses first.
        self.gives(in_threads(made("X", 1, 2), made("Y", 3, 4)), "((dd)(dd))",
                   [("ss", "1", "3"), ("st", "1", "4"), ("ts", "2", "3"), ("tt", "2", "4")])
        self.gives(in_threads(made("Y", 3, 4), made("X", 1, 2)), "((dd)(dd))",
                   [("ss", "1", "3"), ("st", "2", "3"), ("ts", "1", "4"), ("tt", "2", "4")])
        # A choice in a later thread waits for what an earlier one brings.
        wait = seq(call("Wait", "X"), made("Y", 3, 4))
        self.gives(in_threads(wait, made("X", 1, 2)), "((dd)(dd))",
                   [("ss", "1", "3"), ("st", "1", "4"), ("ts", "2", "3"), ("tt", "2", "4")])

    def test_a_puzzle(self):
        """X + Y = 10 and X * Y = 21, with X less than Y."""
        digits = tuple(range(1, 10))
        program = program_of(local("S T A B C", made("X", *digits), made("Y", *digits), op("<", "C", "X", "Y"), (
            "atom", "C", "true"), op("+", "A", "X", "Y"), ("int", "A", 10), op("*", "B", "X", "Y"), ("int", "B", 21)))
        self.assertEqual([outcome[0] for _, outcome in solutions(program)], [("3", "7", "_0")])
        self.assertEqual(first_solution(program), solutions(program)[0])

    def test_a_caught_failure_is_none(self):
        self.gives(("try", ("choose", FAILING, ("int", "Y", 1)), "E", ("bind", "Y", "E")), "(dd)",
                   [("s", "1", "failure"), ("t", "_0", "1")])

    def test_answers_are_new(self):
        program = program_of(made("X", 1, 2))
        solutions(program).clear()
        self.assertEqual(len(solutions(program)), 2)


class Bounds(unittest.TestCase):

    def tall(self, many, leaf, last):
        """A tree with this odd number of nodes: each first child is a leaf, and the last second one is `last`."""
        body = local("B O M", ("int", "O", 1), op("<", "B", "N", "O"), ("if", "B", last, (
            "choose", leaf, seq(op("-", "M", "N", "O"), call("P", "M")))))
        return program_of(local("P N", ("proc", "P", ("N",), body), ("int", "N", (many - 1) // 2), call("P", "N")))

    def test_199_and_201_nodes(self):
        self.assertEqual(MOST_KNOTS, 200)
        for many in (1, 3, 151, 197, 199):
            program = self.tall(many, SKIP, SKIP)
            self.assertEqual(shape(program), "(d" * (many // 2) + "d" + ")" * (many // 2))
            self.assertEqual(len(solutions(program)), many // 2 + 1)
        for many in (201, 203, 301):
            for leaf in (SKIP, ("raise", "X")):
                program = self.tall(many, leaf, SKIP)
                for ask in (solutions, shape):
                    with self.assertRaises(TooMany):
                        ask(program)

    def test_first_solution_up_to_it(self):
        # With leaves that are first children, the last node of a tree with n nodes is its n-th one.
        for many, fits in [(199, True), (201, False)]:
            program = self.tall(many, ("raise", "X"), ("int", "X", 5))
            if fits:
                self.assertEqual(first_solution(program), ((True,) * 99, (("5", "_0", "_1"), ())))
            else:
                with self.assertRaises(TooMany):
                    first_solution(program)
        # 99 nodes that choose come before the solution below one of them: it is the 200th, or the 201st.
        for many, fits in [(199, True), (200, False)]:
            program = self.left(many)
            if fits:
                path, _ = first_solution(program)
                self.assertEqual(path, (False,) * many)
            else:
                with self.assertRaises(TooMany):
                    first_solution(program)
            for ask in (solutions, shape):
                with self.assertRaises(TooMany):
                    ask(program)

    def left(self, many):
        """The first children choose, this many times, and then there is a solution."""
        body = local("B O M", ("int", "O", 1), op("<", "B", "N", "O"), ("if", "B", SKIP, (
            "choose", seq(op("-", "M", "N", "O"), call("P", "M")), SKIP)))
        return program_of(local("P N", ("proc", "P", ("N",), body), ("int", "N", many), call("P", "N")))

    def test_no_solution(self):
        for many in (1, 3, 199):
            self.assertIsNone(first_solution(self.tall(many, ("raise", "X"), ("raise", "X"))))
        for many in (201, 251):
            with self.assertRaises(TooMany):
                first_solution(self.tall(many, ("raise", "X"), ("raise", "X")))

    def test_trees_without_end(self):
        for statement in (again(SKIP, call("P")), again(call("P"), SKIP), again(("raise", "X"), call("P")),
                          again(call("P"), call("P"))):
            program = program_of(statement)
            for ask in (solutions, shape):
                with self.assertRaises(TooMany):
                    ask(program)
        self.assertEqual(first_solution(program_of(again(SKIP, call("P")))), ((False,), (("_0", "_1", "_2"), ())))
        for statement in (again(call("P"), SKIP), again(("raise", "X"), call("P"))):
            with self.assertRaises(TooMany):
                first_solution(program_of(statement))

    def test_replayed_has_no_bound(self):
        program = program_of(again(SKIP, call("P")))
        for many in (0, 1, 99, 100, 101, 250):
            self.assertEqual(replayed(program, (True,) * many), ("choosing", (("_0", "_1", "_2"), (("choosing", 1),))))
            self.assertEqual(replayed(program, (True,) * many + (False,)), ("done", (("_0", "_1", "_2"), ())))
            self.assertIsNone(replayed(program, (True,) * many + (False, False)))

    def test_a_full_tree(self):
        for many, fits in [(6, True), (7, False)]:
            names = tuple("ABCDEFG")[:many]
            program = (names, evenly([made(name, 0, 1) for name in names]))
            if fits:
                found = [tuple(map(int, outcome[0])) for _, outcome in solutions(program)]
                self.assertEqual(found, sorted(found))
                self.assertEqual(len(set(found)), 64)
            else:
                with self.assertRaises(TooMany):
                    solutions(program)
                self.assertEqual(first_solution(program), ((False,) * 7, (("0",) * 7, ())))


class Replayed(unittest.TestCase):

    def test_every_status(self):
        program = program_of(("choose", ("choose", SKIP, FAILING), ("choose", call("Wait", "X"), ENDLESS)))
        for path, status in [((), "choosing"), ((False,), "choosing"), ((False, False), "done"),
                             ((False, True), "failed"),
                             ((True,), "choosing"), ((True, False), "waiting"), ((True, True), "limit")]:
            self.assertEqual(replayed(program, path)[0], status)

    def test_paths_that_are_no_nodes(self):
        program = program_of(("choose", ("choose", SKIP, FAILING), ("choose", call("Wait", "X"), ENDLESS)))
        for path in ((False, False, False), (False, True, True), (True, False, True), (True, True, False),
                     (True,) * 50):
            self.assertIsNone(replayed(program, path))
        for statement in (SKIP, FAILING, ENDLESS, call("Wait", "X")):
            self.assertIsNone(replayed(program_of(statement), (False,)))
            self.assertIsNone(replayed(program_of(statement), (True, True)))

    def test_the_outcome_of_a_node(self):
        program = program_of(seq(("int", "Y", 7), made("X", 1, 2), ("thread", made("Z", 3, 4))))
        self.assertEqual(replayed(program, ()), ("choosing", (("_0", "7", "_1"), (("choosing", 1),))))
        self.assertEqual(replayed(program, (True,)), ("choosing", (("2", "7", "_0"), (("choosing", 1),))))
        self.assertEqual(replayed(program, (True, False)), ("done", (("2", "7", "3"), ())))

    def test_limit_is_asked_once(self):
        """The outcome of a node is that behind one run of 3,000 steps."""
        pause = evenly([SKIP] * 20)
        statement = local("P Q", ("proc", "P", (), pause), ("proc", "Q", (), evenly([call("P")] * 20)),
                          ("choose", seq(evenly([call("Q")] * 10), ("int", "X", 1)), SKIP))
        program = program_of(statement)
        self.assertEqual(replayed(program, (False,)), ("limit", (("_0", "_1", "_2"), (("ready", 1),))))
        self.assertEqual(shape(program), "(ld)")


class Drawn(unittest.TestCase):

    def programs(self, seeds, **options):
        for seed in seeds:
            program = drawn.program(seed, 6 + seed % 18, **options)
            if is_good(program):
                yield program

    def test_against_the_words(self):
        chance = random.Random(1301)
        sizes = []
        for program in self.programs(range(16000, 16700), tame=True):
            tree = plain_tree(program, 60)
            if tree is None:
                continue
            sizes.append(len(tree))
            expected = [(path, outcome) for path, status, outcome in tree if status == "done"]
            self.assertEqual(solutions(program), expected)
            self.assertEqual(first_solution(program), expected[0] if expected else None)
            self.assertEqual(shape(program), plain_shape(tree))
            for path, status, outcome in chance.sample(tree, min(3, len(tree))):
                self.assertEqual(replayed(program, path), (status, outcome))
                if status != "choosing":
                    self.assertIsNone(replayed(program, path + (chance.choice([False, True]),)))
            paths = [path for path, _ in expected]
            self.assertEqual(paths, sorted(set(paths)))
        self.assertGreater(sum(many > 1 for many in sizes), 40)
        self.assertGreater(max(sizes), 6)

    def test_all_outcomes_of_all_orders(self):
        """Point 38: programs that are declarative but for choose."""
        chance = random.Random(1302)
        compared = 0
        for _ in range(400):
            program = (("X", "Y"), self.small(chance, ["X", "Y"], 2))
            check(program)
            try:
                found = all_outcomes(program, 3000)
            except TooMany:
                continue
            if "l" in shape(program):
                continue
            expected = sorted({outcome for _, outcome in solutions(program)})
            self.assertEqual(expected, [outcome for outcome in found if outcome[1] == ()], program)
            compared += len(expected) > 1
        self.assertGreater(compared, 60)

    def small(self, chance, known, depth):
        """Statements that raise nothing but `failure`."""
        word = chance.choice(["seq", "seq", "choose", "choose", "thread", "one", "local"]) if depth else "one"
        x, y = chance.choice(known), chance.choice(known)
        if word in ("seq", "choose"):
            return (word, self.small(chance, known, depth - 1), self.small(chance, known, depth - 1))
        if word == "thread":
            return ("thread", self.small(chance, known, depth - 1))
        if word == "local":
            return ("local", "A", self.small(chance, known + ["A"] * 2, depth - 1))
        return chance.choice([("int", x, 1), ("int", x, 2), ("bind", x, y), ("tuple", x, "f", (y,)), call("Wait", x),
                              ("case", x, ("int", 1), ("int", y, 1), ("int", y, 2)), SKIP])


if __name__ == "__main__":
    unittest.main()
