"""Traces: what caused what in a run (points 44 and 45)."""

import random
import unittest

from leatwork.machine import Machine
from leatwork.programs import check
from leatwork.schedules import run
from leatwork.traces import causes, longest, replay, trace
from tests import agreeing, drawn
from tests.build import SKIP, call, evenly, local, op, seq
from tests.machines import statuses

ENDLESS = local("P", ("proc", "P", (), call("P")), call("P"))


def program_of(statement, given="X Y Z"):
    program = (tuple(given.split()), statement)
    check(program)
    return program


def plain_trace(program, schedule):
    """The words of point 44 for a run by the words of point 18."""
    machine = Machine(program)
    events = []
    while machine.ready() and len(events) < 3000:
        ready = machine.ready()
        k = ready[schedule[len(events)] % len(ready)] if len(events) < len(schedule) else min(ready)
        before = statuses(machine)
        machine.step(k)
        after = statuses(machine)
        woke = [j for j in range(len(before)) if j != k and before[j] != "ready" and after[j] == "ready"]
        events.append((k, len(after) - len(before), tuple(woke), after[k]))
    return events


def direct(events):
    """For all pairs of events whether the first one is a direct cause of the second one, by the words of point 45."""
    maker, threads = {0: None}, 1
    for k, (_, made, _, _) in enumerate(events):
        for thread in range(threads, threads + made):
            maker[thread] = k
        threads += made
    pairs = set()
    for one in range(len(events)):
        for other in range(one + 1, len(events)):
            thread = events[other][0]
            between = [event[0] for event in events[one + 1:other]]
            if events[one][0] == thread and thread not in between:
                pairs.add((one, other))
            if maker[thread] == one and thread not in [event[0] for event in events[:other]]:
                pairs.add((one, other))
            if thread in events[one][2] and thread not in between:
                pairs.add((one, other))
    return pairs


def plain_causes(events, index):
    pairs = direct(events)
    found = {index}
    while True:
        more = {one for one, other in pairs if other in found} - found
        if not more:
            return sorted(found)
        found |= more


def plain_longest(events):
    pairs = direct(events)
    lengths = []
    for k in range(len(events)):
        lengths.append(1 + max([lengths[one] for one, other in pairs if other == k], default=0))
    return max(lengths, default=0)


class Trace(unittest.TestCase):

    def gives(self, statement, schedule, expected, given="X Y Z"):
        program = program_of(statement, given)
        kept = list(schedule)
        self.assertEqual(trace(program, schedule), expected)
        self.assertEqual(schedule, kept)
        self.assertEqual(replay(program, expected), len(expected))

    def test_one_thread(self):
        self.gives(SKIP, [], [(0, 0, (), "done")])
        self.gives(seq(SKIP, ("int", "X", 1)), [5], [(0, 0, (), "ready"), (0, 0, (), "ready"), (0, 0, (), "done")])
        self.gives(("raise", "X"), [], [(0, 0, (), "broken")])
        self.gives(call("Wait", "X"), [], [(0, 0, (), "waiting")])
        self.gives(("choose", SKIP, SKIP), [], [])
        self.gives(seq(SKIP, ("choose", SKIP, SKIP)), [], [(0, 0, (), "ready"), (0, 0, (), "choosing")])
        self.gives(("try", ("raise", "X"), "E", SKIP), [], [(0, 0, (), "ready"), (0, 0, (), "ready"),
                                                            (0, 0, (), "done")])

    def test_threads_that_are_made(self):
        self.gives(("thread", SKIP), [], [(0, 1, (), "done"), (1, 0, (), "done")])
        self.gives(seq(("thread", SKIP), ("thread", SKIP)), [0, 1, 1, 0],
                   [(0, 0, (), "ready"), (0, 1, (), "ready"), (1, 0, (), "done"), (0, 1, (), "done"),
                    (2, 0, (), "done")])

    def test_threads_that_are_woken(self):
        statement = seq(("thread", call("Wait", "X")), ("thread", call("Wait", "Y")), ("thread", call("Wait", "X")),
                        ("int", "X", 1))
        found = trace(program_of(statement), [0] * 6 + [1, 1, 1, 0, 0, 0])
        self.assertEqual(found[-4:], [(3, 0, (), "waiting"), (0, 0, (1, 3), "done"), (1, 0, (), "done"),
                                      (3, 0, (), "done")])
        # One that is woken without having waited is not: it was ready.
        self.assertEqual(trace(program_of(statement), [])[6], (0, 0, (), "done"))

    def test_triggers(self):
        statement = seq(("need", "X", SKIP), ("need", "X", SKIP), ("int", "X", 1))
        self.gives(statement, [], [(0, 0, (), "ready")] * 4 + [(0, 2, (), "done"), (1, 0, (), "done"),
                                                               (2, 0, (), "done")])
        self.gives(seq(("need", "X", ("int", "X", 1)), call("Wait", "X")), [],
                   [(0, 0, (), "ready"), (0, 0, (), "ready"), (0, 1, (), "waiting"), (1, 0, (0,), "done"),
                    (0, 0, (), "done")])

    def test_it_ends_with_the_run(self):
        found = trace(program_of(ENDLESS), [3, 4])
        self.assertEqual((len(found), set(found)), (3000, {(0, 0, (), "ready")}))
        found = trace(program_of(seq(("thread", ENDLESS), ENDLESS)), [])
        self.assertEqual(len(found), 3000)

    def test_against_the_words(self):
        chance = random.Random(1501)
        made = woken = 0
        for seed in range(17000, 17300):
            program = drawn.program(seed, 5 + seed % 25, tame=seed % 2 == 0)
            if not agreeing.is_good(program):
                continue
            schedule = [chance.randrange(50) for _ in range(chance.randrange(80))]
            found = trace(program, schedule)
            self.assertEqual(found, plain_trace(program, schedule))
            self.assertEqual(trace(program, schedule), found)
            machine = Machine(program)
            self.assertEqual(run(machine, schedule), len(found))
            self.assertEqual(sum(event[1] for event in found) + 1, machine.threads())
            self.assertEqual(replay(program, found), len(found))
            made += any(event[1] for event in found)
            woken += any(event[2] for event in found)
        self.assertGreater(made, 100)
        self.assertGreater(woken, 20)

    def test_results_are_new_lists(self):
        program = program_of(SKIP)
        trace(program, []).clear()
        self.assertEqual(trace(program, []), [(0, 0, (), "done")])


class Replay(unittest.TestCase):

    def events(self):
        statement = seq(("thread", op("+", "Y", "X", "X")), ("thread", SKIP), ("int", "X", 1))
        program = program_of(statement)
        return program, trace(program, [0, 0, 1, 0, 0, 2, 0, 1])

    def test_a_part_of_it(self):
        program, events = self.events()
        text = repr(events)
        for many in range(len(events) + 1):
            self.assertEqual(replay(program, events[:many]), many)
        self.assertEqual(repr(events), text)

    def test_another_event(self):
        program, events = self.events()
        for k, (thread, made, woke, after) in enumerate(events):
            for other in [(thread, made + 1, woke, after), (thread, made, woke + (7,), after),
                          (thread, made, woke, "other"),
                          (thread, made, woke, ""), (thread, made - 1, woke, after),
                          (thread, made, (0,) + woke, after)]:
                self.assertEqual(replay(program, events[:k] + [other] + events[k + 1:]), k)

    def test_threads_that_are_not_ready_or_not_there(self):
        program, events = self.events()
        for k in range(len(events)):
            for thread in (3, 4, 60, 10 ** 9):
                self.assertEqual(replay(program, events[:k] + [(thread, 0, (), "done")]), k)
            there = events[:k]
            waiting = [thread for thread in range(3) if (thread, "waiting") in [(e[0], e[3]) for e in there[-1:]]]
            for thread in waiting:
                self.assertEqual(replay(program, there + [(thread, 0, (), "waiting")]), k)
        self.assertEqual(replay(program, events + [(0, 0, (), "done")]), len(events))
        self.assertEqual(replay(program, []), 0)
        self.assertEqual(replay(program_of(("choose", SKIP, SKIP)), [(0, 0, (), "done")]), 0)

    def test_more_than_3000(self):
        program = program_of(ENDLESS)
        self.assertEqual(replay(program, [(0, 0, (), "ready")] * 3500), 3500)

    def test_another_order(self):
        program = program_of(seq(("thread", SKIP), ("thread", SKIP)))
        first = (0, 0, (), "ready")
        events = [first, (0, 1, (), "ready"), (0, 1, (), "done"), (2, 0, (), "done"), (1, 0, (), "done")]
        self.assertEqual(replay(program, events), 5)
        self.assertEqual(replay(program, events[:2] + [(1, 0, (), "done"), (2, 0, (), "done")]), 3)


class Causes(unittest.TestCase):

    def test_one_thread(self):
        events = trace(program_of(evenly([SKIP] * 5)), [])
        for k in range(9):
            self.assertEqual(causes(events, k), list(range(k + 1)))
        self.assertEqual(longest(events), 9)

    def test_no_events(self):
        self.assertEqual(longest([]), 0)
        self.assertEqual((causes([(0, 0, (), "done")], 0), longest([(0, 0, (), "done")])), ([0], 1))

    def test_threads_that_are_made(self):
        # Thread 0 makes 1 and then 2; 1 makes 3.
        events = [(0, 1, (), "ready"), (1, 0, (), "ready"), (0, 1, (), "done"), (1, 1, (), "done"), (3, 0, (), "done"),
                  (2, 0, (), "done")]
        self.assertEqual([causes(events, k) for k in range(6)], [
            [0], [0, 1], [0, 2], [0, 1, 3], [0, 1, 3, 4], [0, 2, 5]])
        self.assertEqual(longest(events), 4)

    def test_threads_that_are_woken(self):
        events = [(0, 2, (), "ready"), (1, 0, (), "waiting"), (2, 0, (1,), "done"), (0, 0, (), "done"),
                  (1, 0, (), "done")]
        self.assertEqual(causes(events, 4), [0, 1, 2, 4])
        self.assertEqual(causes(events, 3), [0, 3])
        self.assertEqual(longest(events), 3)

    def test_woken_by_an_event_that_is_not_the_last_one_before(self):
        # 3 wakes 1, but 1 waits again, and is woken by 5.
        events = [(0, 2, (), "ready"), (1, 0, (), "waiting"), (0, 0, (), "ready"), (0, 0, (1,), "ready"),
                  (1, 0, (), "waiting"),
                  (2, 0, (1,), "done"), (1, 0, (), "done")]
        self.assertEqual(causes(events, 6), [0, 1, 2, 3, 4, 5, 6])
        self.assertEqual(causes(events, 5), [0, 5])
        self.assertEqual(longest(events), 5)

    def test_threads_that_wait_for_one_another(self):
        statement = seq(("thread", op("+", "Y", "X", "X")), ("thread", op("+", "Z", "Y", "Y")), ("int", "X", 1))
        program = program_of(statement)
        events = trace(program, [0, 0, 0, 0, 1, 1, 0, 0, 0])
        last = len(events) - 1
        self.assertEqual(events[last][0], 2)
        self.assertEqual(causes(events, last), list(range(last + 1)))
        for k in range(len(events)):
            self.assertEqual(causes(events, k), plain_causes(events, k))

    def test_against_all_pairs(self):
        chance = random.Random(1502)
        woken = 0
        programs = [drawn.program(seed, 20, tame=True) for seed in range(18000, 18200)]
        for program in programs + agreeing.programs(range(18200, 18300), 20):
            if not agreeing.is_good(program):
                continue
            events = trace(program, [chance.randrange(50) for _ in range(60)])
            if len(events) > 70:
                continue
            text = repr(events)
            woken += any(event[2] for event in events)
            self.assertEqual(longest(events), plain_longest(events))
            for k in chance.sample(range(len(events)), min(5, len(events))):
                found = causes(events, k)
                self.assertEqual(found, plain_causes(events, k))
                self.are_the_first_ones(events, found)
            self.assertEqual(repr(events), text)
        self.assertGreater(woken, 30)

    def are_the_first_ones(self, events, found):
        """The events among the causes that have one thread are the first ones of it."""
        for thread in {events[k][0] for k in found}:
            every = [k for k in range(len(events)) if events[k][0] == thread]
            some = [k for k in found if events[k][0] == thread]
            self.assertEqual(some, every[:len(some)])

    def test_long_traces(self):
        events = trace(program_of(seq(("thread", ENDLESS), ENDLESS)), [1, 0] * 1500)
        self.assertEqual(len(events), 3000)
        self.assertGreater(longest(events), 1400)
        self.assertEqual(causes(events, 2999)[0], 0)


if __name__ == "__main__":
    unittest.main()
