"""Runs by schedules (points 18 and 19)."""

import random
import unittest

from leatwork.errors import TooMany
from leatwork.machine import Machine
from leatwork.programs import check
from leatwork.schedules import all_outcomes, outcome_by, run
from tests import drawn
from tests.build import SKIP, call, evenly, local, op, seq
from tests.machines import make, statuses, text

ENDLESS = local("P", ("proc", "P", (), call("P")), call("P"))
RACE = seq(call("NewCell", "Z", "C"), ("thread", call("Exchange", "C", "X", "A")),
           ("thread", call("Exchange", "C", "Y", "B")))


def ends_after(many):
    """A program for one thread that takes so many steps."""
    return (("X",), evenly([SKIP] * ((many + 1) // 2)) if many % 2 else ("local", "A", ends_after(many - 1)[1]))


def counting(many):
    """A program that takes more than this many steps, and some more, for many of at least 1."""
    body = local("B O M", ("int", "O", 1), op("-", "M", "N", "O"), op("<", "B", "O", "N"), (
        "if", "B", call("P", "M"), ("atom", "X", "end")))
    return (("X",), local("P N", ("proc", "P", ("N",), body), ("int", "N", many), call("P", "N")))


def plain_run(machine, schedule):
    """The words of point 18, and the threads that stepped."""
    stepped = []
    for n in schedule:
        ready = machine.ready()
        if not ready or len(stepped) == 3000:
            return stepped
        stepped.append(ready[n % len(ready)])
        machine.step(stepped[-1])
    while machine.ready() and len(stepped) < 3000:
        stepped.append(min(machine.ready()))
        machine.step(stepped[-1])
    return stepped


def plain_outcomes(program, limit=20000):
    """The outcomes of all runs and the number of machines, each as often as steps and choices lead to it."""
    found, looked_at = set(), 0
    todo = [Machine(program)]
    while todo:
        looked_at += 1
        if looked_at > limit:
            return None
        machine = todo.pop()
        following = []
        for k in range(machine.threads()):
            if machine.status(k) == "ready":
                following.append(machine.copy())
                following[-1].step(k)
            elif machine.status(k) == "choosing":
                for second in (False, True):
                    following.append(machine.copy())
                    following[-1].choose(k, second)
        if not following:
            found.add(machine.outcome())
        todo.extend(following)
    return sorted(found), looked_at


class Run(unittest.TestCase):

    def test_the_number_of_steps(self):
        for many in (1, 2, 3, 4, 99, 100):
            program = ends_after(many)
            for schedule in ([], [0], [0] * many, [0] * 500, [7, 2]):
                machine = Machine(program)
                self.assertEqual(run(machine, schedule), many)
                self.assertEqual((machine.steps(), machine.status(0)), (many, "done"))
                self.assertEqual(run(machine, schedule), 0)

    def test_the_index_among_the_ready_ones(self):
        threads = [("thread", ("int", name, 1)) for name in "ABCDE"]
        machine = make(seq(*threads, ("atom", "F", "go")), "A B C D E F")
        # Each of the first steps is one of thread 0.
        self.assertEqual(run(machine.copy(), [0] * 10), 10 + 1 + 5)
        for n in (0, 1, 2, 3, 4, 5, 6, 11, 12, 10 ** 30 + 1, 2 ** 200):
            other = machine.copy()
            for _ in range(10):
                other.step(0)
            third = other.copy()
            stepped = other.ready()[n % 6]
            third.step(stepped)
            self.assertEqual(other.ready(), [0, 1, 2, 3, 4, 5])
            one = other.copy()
            run(one, [n])
            run(third, [])
            self.assertEqual(one.outcome(), third.outcome())

    def test_against_the_words(self):
        chance = random.Random(77)
        for seed in range(80):
            program = drawn.program(60000 + seed, 20, tame=True)
            check(program)
            schedule = [chance.choice([0, 1, 2, 3, 5, 10 ** 40 + chance.randrange(99)]) for _ in range(
                chance.randrange(60))]
            machine, other = Machine(program), Machine(program)
            stepped = plain_run(other, schedule)
            kept = list(schedule)
            self.assertEqual(run(machine, schedule), len(stepped))
            self.assertEqual(schedule, kept)
            self.assertEqual(machine.outcome(), other.outcome())
            self.assertEqual(statuses(machine), statuses(other))
            self.assertEqual(outcome_by(program, schedule), other.outcome())

    def test_different_schedules_make_different_runs(self):
        race = (("X", "Y", "Z", "A", "B", "C"), RACE)
        found = {outcome_by(race, schedule) for schedule in ([], [0] * 9, [1] * 9, [0, 0, 0, 0, 0, 1], [2] * 9,
                                                             [10 ** 50] * 9, [10 ** 50 + 1] * 9)}
        self.assertEqual(found, {(("_0", "_1", "_0", "_1", "_2", "<cell 0>"), ()),
                                 (("_0", "_1", "_1", "_2", "_0", "<cell 0>"), ())})

    def test_waiting_threads_make_no_steps(self):
        machine = make(seq(("thread", call("Wait", "X")), call("Wait", "X")))
        self.assertEqual(run(machine, [0, 0, 0, 5, 7]), 4)
        self.assertEqual(statuses(machine), ["waiting", "waiting"])

    def test_a_choosing_thread_ends_a_run(self):
        machine = make(seq(("thread", ("int", "X", 1)), ("choose", SKIP, SKIP)))
        self.assertEqual(run(machine, [3, 1, 4]), 3)
        self.assertEqual((statuses(machine), text(machine, 0)), (["choosing", "done"], "1"))
        self.assertEqual(run(machine, [1]), 0)

    def test_a_program_that_never_ends(self):
        for schedule in ([], [0] * 5, [1] * 2999, [1] * 3000, [1] * 3001, [10 ** 30] * 5000):
            machine = Machine((("X",), ENDLESS))
            self.assertEqual(run(machine, schedule), 3000)
            self.assertEqual((machine.steps(), machine.status(0)), (3000, "ready"))
            # Another run of the same machine has 3,000 steps again.
            self.assertEqual(run(machine, schedule), 3000)
            self.assertEqual(machine.steps(), 6000)
        self.assertEqual(outcome_by((("X",), ENDLESS), [5]), (("_0",), (("ready", 1),)))

    def test_just_3000_steps(self):
        for many in range(270, 280):
            program = counting(many)
            machine = Machine(program)
            taken = 0
            while machine.status(0) == "ready":
                machine.step(0)
                taken += 1
            other = Machine(program)
            self.assertEqual(run(other, []), min(taken, 3000))
            self.assertEqual(other.status(0), "done" if taken <= 3000 else "ready")

    def test_exactly_3000_steps(self):
        for extra, status in [(0, "done"), (1, "ready")]:
            machine = make(evenly([SKIP] * 60), "X")
            # What goes before is not of this run.
            machine.step(0)
            self.assertEqual(run(machine, []), 118)
            program = self.of_steps(3000 + extra)
            machine = Machine(program)
            self.assertEqual((run(machine, []), machine.status(0)), (3000, status))

    def of_steps(self, many):
        """A program that takes so many steps, which a plain count of them confirms."""
        for loops in range(200, 300):
            for skips in range(1, 40):
                given, statement = counting(loops)
                program = (given, seq(statement, evenly([SKIP] * skips)))
                if loops * 11 - 40 < many < loops * 11 + 90 and self.count(program) == many:
                    return program
        raise AssertionError(many)

    def count(self, program):
        machine = Machine(program)
        while machine.ready():
            machine.step(0)
        return machine.steps()


class AllOutcomes(unittest.TestCase):

    def met(self, program, expected, many):
        """Just so many machines are looked at."""
        check(program)
        self.assertEqual(plain_outcomes(program), (expected, many))
        for most in (many, many + 1, many * 1000):
            self.assertEqual(all_outcomes(program, most), expected)
        for most in {1, many // 2, many - 1} - {0, many}:
            with self.assertRaises(TooMany):
                all_outcomes(program, most)

    def test_one_thread(self):
        self.met(((), SKIP), [((), ())], 2)
        self.met((("X",), ("int", "X", 3)), [(("3",), ())], 2)
        self.met((("X",), seq(SKIP, ("raise", "X"))), [(("_0",), (("broken", 1),))], 4)

    def test_waiting(self):
        self.met((("X",), call("Wait", "X")), [(("_0",), (("waiting", 1),))], 2)

    def test_a_choice(self):
        program = (("X",), ("choose", ("int", "X", 2), ("int", "X", 1)))
        self.met(program, [(("1",), ()), (("2",), ())], 5)
        self.met(((), ("choose", SKIP, SKIP)), [((), ())], 5)

    def test_no_step_but_choices(self):
        deep = ("choose", ("choose", call("Wait", "X"), SKIP), ("choose", SKIP, call("Wait", "X")))
        self.met((("X",), deep), [(("_0",), ()), (("_0",), (("waiting", 1),))], 1 + 2 + 4 + 4)

    def test_two_threads(self):
        # seq, thread, and then one step of each in both orders
        self.met((("X", "Y"), seq(("thread", ("int", "X", 1)), ("int", "Y", 2))), [(("1", "2"), ())], 3 + 2 + 2)

    def test_a_choice_between_steps(self):
        program = (("X", "Y"), seq(("thread", ("int", "X", 1)), ("choose", ("bind", "X", "Y"), ("int", "Y", 2))))
        self.met(program, [(("1", "1"), ()), (("1", "2"), ())], plain_outcomes(program)[1])

    def test_a_choice_sees_what_happened_before(self):
        # IsDet says whether thread 1 has stepped already.
        program = (("X", "Y"), seq(("thread", ("int", "X", 1)), ("choose", call("IsDet", "X", "Y"), SKIP)))
        expected = [(("1", "_0"), ()), (("1", "false"), ()), (("1", "true"), ())]
        self.met(program, expected, plain_outcomes(program)[1])

    def test_orders(self):
        program = (("X", "Y", "Z", "A", "B", "C"), RACE)
        expected = [(("_0", "_1", "_0", "_1", "_2", "<cell 0>"), ()), (("_0", "_1", "_1", "_2", "_0", "<cell 0>"), ())]
        self.met(program, sorted(expected), plain_outcomes(program)[1])

    def test_two_choosing_threads(self):
        both = seq(("thread", ("choose", ("int", "X", 1), ("int", "X", 2))), ("choose", ("int", "Y", 1), ("int", "Y", 2)))
        expected = [((x, y), ()) for x in "12" for y in "12"]
        self.met((("X", "Y"), both), expected, plain_outcomes((("X", "Y"), both))[1])

    def test_a_program_that_never_ends(self):
        for most in (1, 2, 50, 1000):
            with self.assertRaises(TooMany):
                all_outcomes((("X",), ENDLESS), most)
            with self.assertRaises(TooMany):
                all_outcomes((("X",), seq(("thread", ENDLESS), ENDLESS)), most)
        with self.assertRaises(TooMany):
            all_outcomes((("X",), ("choose", SKIP, ENDLESS)), 900)

    def test_a_run_ends_behind_3000_steps(self):
        # The first machine and 3,000 more; the run ends with a ready thread.
        with self.assertRaises(TooMany):
            all_outcomes((("X",), ENDLESS), 3000)
        self.assertEqual(all_outcomes((("X",), ENDLESS), 3001), [])
        self.assertEqual(all_outcomes((("X",), ("choose", SKIP, ENDLESS)), 4000), [(("_0",), ())])

    def test_an_outcome_that_is_too_large(self):
        names = tuple(f"X{k}" for k in range(12))
        doubled = [("tuple", x, "f", (y, y)) for x, y in zip(names, names[1:])]
        for word, fits in [("a", True), ("aaaaaaaaaaaa", False)]:
            program = (names, seq(*doubled, ("atom", "X11", word)))
            check(program)
            for ask in (lambda: all_outcomes(program, 100), lambda: outcome_by(program, [1, 2, 3])):
                if fits:
                    self.assertTrue(ask())
                else:
                    with self.assertRaises(TooMany):
                        ask()

    def test_drawn_programs(self):
        sizes = []
        for seed in range(120):
            program = drawn.program(70000 + seed, 5, tame=seed % 2 == 0)
            found = plain_outcomes(program, 1500)
            if found is None:
                with self.assertRaises(TooMany):
                    all_outcomes(program, 1500)
                continue
            sizes.append(len(found[0]))
            self.assertEqual(all_outcomes(program, found[1]), found[0])
            with self.assertRaises(TooMany):
                all_outcomes(program, found[1] - 1)
        self.assertGreater(len(sizes), 40)
        self.assertGreater(max(sizes), 1)

    def test_a_new_list_each_time(self):
        program = (("X",), ("choose", ("int", "X", 2), ("int", "X", 1)))
        all_outcomes(program, 5).clear()
        self.assertEqual(len(all_outcomes(program, 5)), 2)


if __name__ == "__main__":
    unittest.main()
