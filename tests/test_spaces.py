"""Spaces (point 36)."""

import random
import unittest

from leatwork.errors import Failed, NotReady, TooMany
from leatwork.machine import Machine
from leatwork.programs import check
from leatwork.schedules import run
from leatwork.spaces import Space
from leatwork.texts import graph_text, read_graph
from tests import drawn
from tests.agreeing import is_good
from tests.build import SKIP, call, evenly, local, seq
from tests.machines import statuses

ENDLESS = local("P", ("proc", "P", (), call("P")), call("P"))
BROKEN = ("raise", "X")
CHOOSING = ("choose", ("int", "X", 1), ("int", "X", 2))
WAITING = call("Wait", "Z")


def make(statement, given="X Y Z"):
    program = (tuple(given.split()), statement)
    check(program)
    return Space(program)


def texts(space):
    return [graph_text(graph) for graph in space.trees()]


def asked(space):
    """All that a space says without being asked."""
    try:
        return space.trees(), space.outcome()
    except TooMany:
        return "too many"


class Ask(unittest.TestCase):

    def test_each_status(self):
        for statement, status in [(SKIP, "done"), (("int", "X", 1), "done"), (WAITING, "waiting"),
                                  (CHOOSING, "choosing"),
                                  (BROKEN, "failed"), (ENDLESS, "limit"),
                                  (seq(("int", "X", 1), ("int", "X", 2)), "failed")]:
            self.assertEqual(make(statement).ask(), status)

    def test_the_first_that_applies(self):
        rows = [("limit", ENDLESS), ("failed", BROKEN), ("choosing", CHOOSING), ("waiting", WAITING), ("done", SKIP)]
        for k, (status, first) in enumerate(rows):
            for _, second in rows[k:]:
                for one, other in ((first, second), (second, first)):
                    # By the schedule without numbers the least thread steps, so an endless one comes last.
                    threads = [("thread", one), ("thread", other)]
                    if one == ENDLESS:
                        threads = threads[::-1]
                    self.assertEqual(make(seq(*threads)).ask(), status)
        self.assertEqual(make(seq(*[("thread", row) for _, row in rows[::-1]])).ask(), "limit")
        self.assertEqual(make(seq(*[("thread", row) for _, row in rows[1:]])).ask(), "failed")

    def test_each_time_anew(self):
        # 10 times 20 calls, with 40 steps each: about 8,400 steps.
        program = local("P Q", ("proc", "P", (), evenly([SKIP] * 20)), ("proc", "Q", (), evenly([call("P")] * 20)),
                        evenly([call("Q")] * 10 + [("int", "X", 1)]))
        space = make(program)
        asks = []
        while not asks or asks[-1] == "limit":
            asks.append(space.ask())
        self.assertEqual((asks, texts(space)[0]), (["limit", "limit", "done"], "1"))

    def test_asked_again_it_says_the_same(self):
        for statement in (SKIP, WAITING, CHOOSING, BROKEN, ENDLESS):
            space = make(statement)
            first = space.ask()
            before = asked(space)
            self.assertEqual((space.ask(), asked(space)), (first, before))

    def test_it_is_the_machine_by_no_schedule(self):
        for seed in range(300):
            program = drawn.program(14000 + seed, 5 + seed % 20, tame=seed % 2 == 0)
            if not is_good(program):
                continue
            space, machine = Space(program), Machine(program)
            status = space.ask()
            run(machine, [])
            there = statuses(machine)
            expected = next((word for word, one in [("limit", "ready"), ("failed", "broken"), ("choosing", "choosing"),
                                                    ("waiting", "waiting")] if one in there), "done")
            self.assertEqual(status, expected)
            self.assertEqual(space.outcome(), machine.outcome())
            self.assertEqual(space.trees(), [machine.graph(machine.given(k)) for k in range(3)])

    def test_before_it_is_asked(self):
        space = make(("int", "X", 1))
        self.assertEqual((texts(space), space.outcome()), (["_0", "_1", "_2"], (("_0", "_1", "_2"), (("ready", 1),))))
        self.assertEqual(texts(space), ["_0", "_1", "_2"])
        space.ask()
        self.assertEqual((texts(space), space.outcome()), (["1", "_1", "_2"], (("1", "_0", "_1"), ())))

    def test_no_given_variables(self):
        space = make(SKIP, "")
        self.assertEqual((space.trees(), space.ask(), space.outcome()), ([], "done", ((), ())))


class Commit(unittest.TestCase):

    def test_both_ways(self):
        for second, expected in [(False, "1"), (True, "2")]:
            space = make(CHOOSING)
            self.assertIsNone(space.commit(second))
            # It is not asked behind that.
            self.assertEqual(texts(space)[0], "_0")
            self.assertEqual((space.ask(), texts(space)[0]), ("done", expected))

    def test_it_asks_first(self):
        space = make(seq(("int", "Y", 5), CHOOSING))
        space.commit(True)
        self.assertEqual(texts(space)[1], "5")
        space = make(seq(("thread", ("seq", CHOOSING, ("choose", ("int", "Y", 3), ("int", "Y", 4)))), SKIP))
        space.commit(False)
        space.commit(True)
        self.assertEqual(space.ask(), "done")
        self.assertEqual(texts(space)[:2], ["1", "4"])

    def test_the_thread_with_the_least_number(self):
        ways = [("thread", ("choose", ("int", x, 1), ("int", x, 2))) for x in "XYZ"]
        space = make(seq(*ways))
        for k in range(3):
            self.assertEqual(space.ask(), "choosing")
            space.commit(True)
            space.ask()
            self.assertEqual([text == "2" for text in texts(space)], [j <= k for j in range(3)])

    def test_nothing_to_choose(self):
        for statement in (SKIP, WAITING, BROKEN, ENDLESS, seq(("thread", BROKEN), CHOOSING),
                          seq(("thread", ENDLESS), CHOOSING)):
            for second in (False, True):
                space, other = make(statement), make(statement)
                with self.assertRaises(NotReady):
                    space.commit(second)
                # It has been asked.
                other.ask()
                self.assertEqual(asked(space), asked(other))
                self.assertEqual(space.ask(), other.ask())

    def test_one_choice_only(self):
        space = make(CHOOSING)
        space.commit(True)
        with self.assertRaises(NotReady):
            space.commit(True)
        self.assertEqual(texts(space)[0], "2")


class Tell(unittest.TestCase):

    def test_trees(self):
        for index in range(3):
            for text in ("1", "a", "f(1 g(2))", "0=f(@0 3)"):
                space = make(SKIP)
                self.assertIsNone(space.tell(index, read_graph(text)))
                self.assertEqual(texts(space)[index], text)
                self.assertEqual(space.outcome()[1], (("ready", 1),))
                self.assertEqual(space.ask(), "done")

    def test_variables_are_new_ones(self):
        space = make(("bind", "X", "Y"))
        space.tell(0, read_graph("f(_0 _1 _0)"))
        space.tell(1, read_graph("g(_0 _1)"))
        first, second = space.trees()[:2]
        self.assertEqual(space.outcome()[0], ("f(_0 _1 _0)", "g(_2 _3)", "_4"))
        self.assertEqual(len({node for node in first + second if node[0] == "var"}), 4)
        # They stand for something behind further equations.
        space.tell(0, read_graph("f(1 _9 _8)"))
        self.assertEqual(space.outcome()[0][0], "f(1 _0 1)")
        space = make(SKIP)
        space.tell(2, read_graph("_7"))
        self.assertEqual(space.outcome()[0], ("_0", "_1", "_2"))

    def test_graphs_with_nodes_aside(self):
        space = make(SKIP)
        space.tell(0, (("tuple", "f", (1, 2)), ("int", 1), ("int", 1), ("int", 5)))
        self.assertEqual(space.trees()[0], (("tuple", "f", (1, 1)), ("int", 1)))

    def test_what_waits_goes_on(self):
        space = make(seq(("need", "Y", ("int", "X", 3)), WAITING))
        self.assertEqual(space.ask(), "waiting")
        space.tell(1, read_graph("f(1)"))
        space.tell(2, read_graph("_0"))
        self.assertEqual((texts(space)[:2], space.ask()), (["_0", "f(1)"], "waiting"))
        self.assertEqual(texts(space)[0], "3")
        space.tell(2, read_graph("a"))
        self.assertEqual(space.ask(), "done")

    def test_failed(self):
        space = make(seq(("tuple", "X", "f", ("Y", "Z")), ("need", "Y", ("int", "Z", 1))))
        space.ask()
        before = asked(space)
        for text in ("g(1 2)", "f(1)", "a", "1"):
            with self.assertRaises(Failed):
                space.tell(0, read_graph(text))
            self.assertEqual(asked(space), before)
        # No trigger is gone, and no thread is there that was not.
        space.tell(1, read_graph("5"))
        self.assertEqual((space.ask(), texts(space)), ("done", ["f(5 1)", "5", "1"]))

    def test_a_failure_in_the_middle(self):
        space = make(seq(("tuple", "X", "f", ("Y", "Z")), ("int", "Z", 3)))
        space.ask()
        with self.assertRaises(Failed):
            space.tell(0, read_graph("f(1 2)"))
        self.assertEqual(texts(space), ["f(_1 3)", "_1", "3"])

    def filled(self, room):
        """A space that has room for so many nodes."""
        space = make(SKIP)
        left = 2000 - 3 - 16 - room
        numbers = iter(range(10 ** 6))
        while left:
            many = min(left, 399)
            # Each time one more node for the old tree is made.
            graph = tuple(("tuple", "f", (k + 1,)) for k in range(many - 1)) + (("var", next(numbers)),)
            space.tell(1, graph)
            left -= many
        return space

    def test_too_many(self):
        row = tuple(("tuple", "f", (k + 1,)) for k in range(9)) + (("int", 1),)
        for room in (10, 9, 0):
            space = self.filled(room)
            before = asked(space)
            if room == 10:
                space.tell(0, row)
                self.assertEqual(len(space.trees()[0]), 10)
                with self.assertRaises(TooMany):
                    space.tell(0, (("int", 1),))
                continue
            with self.assertRaises(TooMany):
                space.tell(0, row)
            self.assertEqual(asked(space), before)
            for k in range(room):
                space.tell(0, (("var", k),))
            with self.assertRaises(TooMany):
                space.tell(0, (("var", 0),))

    def test_too_many_comes_before_failed(self):
        for room, error in [(1, TooMany), (2, Failed)]:
            space = self.filled(room)
            with self.assertRaises(error):
                # The given variable stands for f(..).
                space.tell(1, (("tuple", "g", (1,)), ("int", 1)))
            before = asked(space)
            # All the room is still there.
            for _ in range(room):
                space.tell(2, (("var", 0),))
            with self.assertRaises(TooMany):
                space.tell(2, (("var", 0),))
            self.assertEqual(asked(space)[0][:2], before[0][:2])

    def test_trees_that_are_too_large(self):
        space = make(("tuple", "Y", "h", ("X",)))
        space.tell(0, tuple(("tuple", "f", (k + 1,)) for k in range(399)) + (("int", 1),))
        self.assertEqual(len(space.trees()[0]), 400)
        space.ask()
        with self.assertRaises(TooMany):
            space.trees()
        with self.assertRaises(TooMany):
            space.outcome()
        space = make(SKIP)
        nodes = [("tuple", "f", (k + 1,) * 6) for k in range(6)] + [("atom", "a")]
        space.tell(0, tuple(nodes))
        self.assertEqual(len(space.trees()[0]), 7)
        with self.assertRaises(TooMany):
            space.outcome()


class Copies(unittest.TestCase):

    def space(self):
        return make(seq(("need", "Z", ("int", "Y", 7)), CHOOSING, ("tuple", "U", "f", ("X", "Y"))), "X Y Z U")

    def test_they_do_not_change_each_other(self):
        changes = [lambda space: space.ask(), lambda space: space.commit(True), lambda space: space.commit(False),
                   lambda space: space.tell(2, read_graph("g(1)")),
                   lambda space: (space.tell(2, read_graph("a")), space.ask())]
        for before in [lambda space: None, *changes]:
            for change in changes:
                for first in (0, 1):
                    space = self.space()
                    before(space)
                    copied = space.copy()
                    self.assertIs(type(copied), Space)
                    self.assertEqual(asked(copied), asked(space))
                    one, other = (space, copied) if first else (copied, space)
                    there = asked(other)
                    try:
                        change(one)
                    except (NotReady, Failed):
                        pass
                    self.assertEqual(asked(other), there)
                    try:
                        change(other)
                    except (NotReady, Failed):
                        pass
                    self.assertEqual(asked(other), asked(one))
                    self.assertEqual(other.ask(), one.ask())

    def test_results_are_new_lists(self):
        space = self.space()
        space.trees().clear()
        self.assertEqual(len(space.trees()), 4)

    def test_drawn_programs_and_calls(self):
        """A space against its copies, which make the same calls later."""
        chance = random.Random(1201)
        for seed in range(15000, 15060):
            program = drawn.program(seed, 14, tame=True)
            if not is_good(program):
                continue
            spaces, calls, answers = [Space(program)], [], []
            for _ in range(8):
                spaces.append(spaces[-1].copy())
                calls.append(chance.choice([("ask",), ("commit", True), ("commit", False),
                                            ("tell", chance.randrange(3), read_graph(
                    chance.choice(["1", "f(_0 _1)", "true", "f(1)"])))]))
                answers.append(self.answer(spaces[-1], calls[-1]))
            for k, space in enumerate(spaces[:-1]):
                self.assertEqual([self.answer(space, one) for one in calls[k:]], answers[k:])

    def answer(self, space, asking):
        name, *arguments = asking
        try:
            return getattr(space, name)(*arguments), asked(space)
        except (NotReady, Failed, TooMany) as error:
            return error.__class__.__name__, asked(space)


if __name__ == "__main__":
    unittest.main()
