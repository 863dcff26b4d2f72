"""What is needed, and machines that are collected (points 34 and 35)."""

import random
import unittest

from leatwork.collecting import collected, needed, node_count
from leatwork.errors import Failed, NotReady
from leatwork.machine import Machine
from leatwork.programs import check
from leatwork.schedules import run
from leatwork.texts import read_graph
from tests import agreeing, drawn, naive_needed
from tests.build import SKIP, call, local, op, seq
from tests.machines import bind, fill, make, raised, room_of, size, statuses, steps, text, texts
from tests.naive_machine import NaiveMachine

# The built-in procedures and what the machine raises.
ALWAYS = 16


def without_numbers(graphs):
    """Graphs in which variables have numbers as they are met in them one after the other."""
    numbers = {}
    return [graph and tuple(("var",
                             numbers.setdefault(node, len(numbers))) if node[0] == "var" else node for node in graph)
            for graph in graphs]


def asked(machine, many):
    """All that a machine says, apart from the numbers of nodes and variables."""
    threads = range(machine.threads())
    awaited = [machine.waits_for(k) for k in threads]
    graphs = [machine.graph(machine.given(k)) for k in range(many)] + [machine.raised(k) for k in threads]
    graphs += [None if k is None else machine.graph(k) for k in awaited]
    return (statuses(machine), machine.ready(), machine.steps(), machine.outcome(), without_numbers(graphs))


class Needed(unittest.TestCase):

    def needs(self, machine, many):
        """So many nodes are needed besides the given ones and those that always are."""
        given = len({machine.graph(machine.given(k)) for k in range(3)})
        self.assertEqual(len(needed(machine)), given + ALWAYS + many)
        other = collected(machine)
        self.assertEqual(node_count(other), given + ALWAYS + many)
        self.assertEqual(needed(other), list(range(node_count(other))))
        self.assertEqual(asked(other, 3), asked(machine, 3))
        return other

    def test_at_the_beginning(self):
        for given in ("X Y Z", "X Y Z A B C D E F G H I"):
            machine = make(SKIP, given)
            self.assertEqual(needed(machine), list(range(len(given.split()) + 16)))
            self.assertEqual(node_count(machine), len(given.split()) + 16)
        machine = make(SKIP, "")
        self.assertEqual((needed(machine), node_count(machine)), (list(range(16)), 16))

    def test_representatives(self):
        machine = make(seq(("bind", "X", "Y"), ("int", "Z", 5), ("int", "Z", 5)))
        run(machine, [])
        # X stands for Y, and the first 5 for Z and the other 5.
        self.assertEqual(node_count(machine), 3 + 16 + 2)
        self.assertEqual(needed(machine), [0] + list(range(3, 20)))
        other = collected(machine)
        self.assertEqual((node_count(other), other.given(0), other.given(1), other.given(2)), (18, 0, 0, 17))
        self.assertEqual(other.outcome(), machine.outcome())

    def test_what_frames_use(self):
        machine = make(local("A B C", ("int", "A", 1), ("tuple", "B", "f", ("A",)), ("bind", "C", "A"),
                             call("Wait", "B")))
        steps(machine, 3)
        self.needs(machine, 3)
        # A and C are the same; then nothing uses C, and B needs A.
        steps(machine, 4)
        self.needs(machine, 3)
        steps(machine, 2)
        self.needs(machine, 2)
        steps(machine, 1)
        self.needs(machine, 0)

    def test_both_ways_of_what_may_come(self):
        for statement in [("if", "X", ("bind", "A", "X"), ("bind", "B", "X")),
                          ("choose", ("bind", "A", "X"), ("bind", "B", "X")),
                          ("case", "X", ("tuple", "f", ("A",)), ("bind", "A", "B"), ("bind", "A", "X")),
                          ("try", ("bind", "B", "X"), "B", ("bind", "A", "B")), ("thread", ("tuple", "A", "f", ("B",))),
                          ("need", "X", ("bind", "A", "B")), ("proc", "X", ("B", "C"), call("B", "A", "C"))]:
            machine = steps(make(local("A B", statement)), 2)
            self.needs(machine, 1 if statement[0] == "proc" else 2)

    def test_what_is_made_known_inside(self):
        machine = steps(make(local("A", ("local", "A", ("case", "X", ("tuple", "f", ("B",)), ("bind", "A", "B"),
                                                        SKIP)))), 1)
        self.needs(machine, 0)

    def test_handlers(self):
        machine = make(local("A B C", ("try", ("raise", "A"), "B", ("tuple", "X", "f", ("B", "C")))))
        steps(machine, 3)
        self.needs(machine, 2)
        # The handler and the statement above it: B of the handler is not needed.
        steps(machine, 1)
        other = self.needs(machine, 2)
        for one in (machine, other):
            steps(one, 2)
            self.assertEqual(len(text(one, 0).split(" ")), 2)
            self.assertTrue(text(one, 0).startswith("f(_"))
        self.needs(machine, 3 - 1)

    def test_what_broke_a_thread(self):
        machine = make(local("A B", ("int", "B", 7), ("tuple", "A", "f", ("B",)), ("raise", "A")))
        run(machine, [])
        self.assertEqual(raised(self.needs(machine, 2)), "f(7)")

    def test_procedures(self):
        body = seq(("bind", "Q", "A"), call("P", "Q"))
        machine = make(local("P A B", ("proc", "P", ("Q",), body), ("bind", "X", "P"), call("Wait", "B")))
        steps(machine, 7)
        # P itself and A; nothing else needs B behind the end.
        other = self.needs(machine, 2)
        self.assertEqual(text(other, 0), "<proc 0>")
        machine = make(local("P A", ("proc", "P", (), ("bind", "A", "X")), ("int", "Y", 1)))
        run(machine, [])
        self.needs(machine, 0)

    def test_a_procedure_that_is_gone_keeps_its_number(self):
        statement = seq(local("P", ("proc", "P", (), SKIP)), ("proc", "X", (), SKIP),
                        local("P", ("proc", "P", (), SKIP)),
                        call("Wait", "Z"), ("proc", "Y", (), SKIP))
        machine = make(statement)
        run(machine, [])
        other = self.needs(machine, 0)
        bind(other, 2, "1")
        run(other, [])
        self.assertEqual(texts(other, 0, 1), ["<proc 1>", "<proc 3>"])

    def test_the_name_of_a_procedure_that_is_gone(self):
        """Only `add` can bring it back; it is no procedure any more."""
        machine = make(seq(local("P", ("proc", "P", (), SKIP)), call("X"), ("proc", "Y", (), SKIP)))
        run(machine, [])
        other = collected(machine)
        bind(other, 0, "<proc 0>")
        run(other, [])
        self.assertEqual((raised(other), texts(collected(other), 0)), ("type", ["<proc 0>"]))

    def test_cells_and_ports(self):
        statement = local("C P A B E", call("NewCell", "A", "C"), call("NewPort", "B", "P"), call("NewCell", "P", "X"),
                          ("int", "A", 5), call("Wait", "Y"), call("Exchange", "C", "Z", "E"), call("Send", "P", "A"))
        machine = make(statement)
        run(machine, [])
        # C, 5 (as A), P, its end B, E.
        other = self.needs(machine, 5)
        bind(other, 1, "1")
        run(other, [])
        self.assertEqual((texts(other, 0, 2), statuses(other)), (["<cell 1>", "5"], ["done"]))
        # X needs the port; its end is a variable now that only the port needs.
        self.needs(other, 2)
        for word in ("NewCell", "NewPort"):
            machine = make(seq(local("A C", call(word, "A", "C")), local("A", call(word, "A", "X")), call("Wait", "Z"),
                               call(word, "Y", "Y")))
            run(machine, [])
            other = self.needs(machine, 1)
            bind(other, 2, "1")
            run(other, [])
            # The second of the two.
            self.assertEqual(texts(other, 0, 1)[0][-2:], "1>")

    def test_triggers(self):
        machine = make(local("A B C", ("tuple", "Y", "f", ("A",)), ("need", "A", ("bind", "B", "X")),
                             ("need", "C", ("int", "Z", 1)),
                             ("need", "Y", SKIP)))
        run(machine, [])
        # A is a part of Y, so its trigger needs B; C and its trigger are gone.
        other = self.needs(machine, 2)
        self.assertEqual(other.threads(), 2)
        other.tell(other.given(1), other.add((("tuple", "f", (1,)), ("int", 3))))
        run(other, [])
        self.assertEqual((other.threads(), texts(other, 1, 2)), (3, ["f(3)", "_1"]))

    def test_only_through_one_another(self):
        """A cell that holds a procedure that uses a port whose end has a trigger that uses a cell."""
        statement = local(
            "D", call("NewCell", "Y", "D"), local("E", ("need", "E", call("Exchange", "D", "Z", "Z")), local(
                "Q", call("NewPort", "E", "Q"), local("P", ("proc", "P", ("A",), call("Send", "Q", "A")),
                                                      call("NewCell", "P", "X")))))
        machine = make(statement)
        run(machine, [])
        # P, Q, E and D.
        other = self.needs(machine, 4)
        other.tell(other.given(0), other.given(0))
        run(other, [])
        self.assertEqual(asked(other, 3), asked(machine, 3))
        machine = make(local("P Q", ("proc", "P", (), call("Q")), ("proc", "Q", (), call("P")),
                             call("NewCell", "P", "X")))
        run(machine, [])
        self.needs(machine, 2)
        machine = make(local("C D", call("NewCell", "D", "C"), call("NewCell", "C", "D")))
        run(machine, [])
        self.needs(machine, 0)

    def test_infinite_trees(self):
        machine = make(local("A B", ("tuple", "A", "f", ("B", "X")), ("tuple", "B", "g", ("A",)), ("bind", "Y", "B")))
        run(machine, [])
        self.assertEqual(text(self.needs(machine, 1), 1), "0=g(f(@0 _0))")

    def test_what_is_added_from_outside(self):
        machine = make(SKIP)
        node = machine.add(read_graph("f(g(1) <cell 7> <proc 0>)"))
        self.assertEqual(len(needed(machine)), 19)
        machine.tell(machine.given(0), node)
        other = self.needs(machine, 4)
        self.assertEqual(text(other, 0), "f(g(1) <cell 7> <proc 0>)")

    def test_against_the_words(self):
        chance = random.Random(1101)
        fewer = 0
        for seed in range(11000, 11300):
            program = drawn.program(seed, 8 + seed % 20, tame=seed % 2 == 0)
            if not agreeing.is_good(program):
                continue
            machine, plain = Machine(program), NaiveMachine(program)
            for turn in range(60):
                choosing = [k for k, status in enumerate(plain.statuses()) if status == "choosing"]
                if choosing and chance.randrange(2):
                    k, second = chance.choice(choosing), chance.choice([True, False])
                    machine.choose(k, second)
                    plain.choose(k, second)
                elif plain.ready():
                    k = chance.choice(plain.ready())
                    machine.step(k)
                    plain.step(k)
                else:
                    break
                if chance.randrange(8) == 0:
                    self.assertEqual(needed(machine), naive_needed.needed(plain))
            found = naive_needed.needed(plain)
            self.assertEqual(needed(machine), found)
            self.assertEqual(node_count(collected(machine)), len(found))
            fewer += len(found) < node_count(machine)
        self.assertGreater(fewer, 150)


class Collected(unittest.TestCase):

    def test_the_machine_stays_as_it_is(self):
        chance = random.Random(1102)
        for seed in range(12000, 12080):
            program = drawn.program(seed, 15)
            machine, other = Machine(program), Machine(program)
            for _ in range(30):
                if not machine.ready():
                    break
                k = chance.choice(machine.ready())
                machine.step(k)
                other.step(k)
                found = collected(machine)
                self.assertIs(type(found), Machine)
                self.assertEqual(needed(machine), needed(other))
                self.assertEqual(node_count(machine), node_count(other))
                run(found, [1, 2, 3])
                self.assertEqual(asked(machine, 3), asked(other, 3))
            run(machine, [])
            run(other, [])
            self.assertEqual(asked(machine, 3), asked(other, 3))

    def test_collecting_again_changes_nothing(self):
        chance = random.Random(1103)
        for seed in range(12100, 12200):
            machine = Machine(drawn.program(seed, 15))
            run_some(machine, chance, 25)
            found = collected(machine)
            again = collected(found)
            self.assertEqual(needed(found), list(range(node_count(found))))
            self.assertEqual(needed(again), needed(found))
            self.assertEqual(node_count(found), len(needed(machine)))
            for k in range(node_count(found)):
                self.assertEqual(again.graph(k), found.graph(k))
            for k in range(3):
                self.assertEqual(again.given(k), found.given(k))
            self.assertEqual([again.waits_for(k) for k in range(again.threads())],
                             [found.waits_for(k) for k in range(found.threads())])

    def test_the_order_of_the_numbers(self):
        chance = random.Random(1104)
        for seed in range(12200, 12300):
            machine = Machine(drawn.program(seed, 15))
            run_some(machine, chance, 25)
            kept = needed(machine)
            found = collected(machine)
            self.assertEqual(without_numbers([found.graph(k) for k in range(len(kept))]),
                             without_numbers([machine.graph(k) for k in kept]))
            numbers = [kept.index(self.representative(machine, machine.given(k))) for k in range(3)]
            self.assertEqual([found.given(k) for k in range(3)], numbers)
            for k, node in enumerate(kept):
                # A variable has its own number.
                if machine.graph(node)[0][0] == "var":
                    self.assertEqual(found.graph(k), (("var", k),))

    def representative(self, machine, node):
        return machine.crew.world.store.representative(node)

    def step_both(self, machine, other, chance):
        """The same step, choice, or equation from outside at both; returns False if there is nothing to do."""
        choosing = [k for k, status in enumerate(statuses(machine)) if status == "choosing"]
        if choosing and chance.randrange(2):
            k, second = chance.choice(choosing), chance.choice([True, False])
            machine.choose(k, second)
            other.choose(k, second)
        elif machine.ready():
            k = chance.choice(machine.ready())
            machine.step(k)
            other.step(k)
        else:
            return self.tell_both(machine, other, chance)
        return True

    def tell_both(self, machine, other, chance):
        index, graph = chance.randrange(3), read_graph(chance.choice(["1", "true", "f(_1 _2)", "f(_1)", "a", "_5"]))
        failed = []
        for one in (machine, other):
            try:
                one.tell(one.given(index), one.add(graph))
            except Failed:
                failed.append(True)
        self.assertNotEqual(len(failed), 1)
        return not failed

    def alike(self, program, chance, most):
        """Runs a machine, and one that is collected at drawn moments; returns how many nodes each has then."""
        machine, other = Machine(program), Machine(program)
        for _ in range(most):
            if not self.step_both(machine, other, chance):
                break
            if chance.randrange(4) == 0:
                other = collected(other)
            self.assertEqual(asked(other, 3), asked(machine, 3))
        run(machine, [])
        run(other, [])
        self.assertEqual(asked(other, 3), asked(machine, 3))
        return node_count(machine), node_count(other)

    def test_they_behave_alike(self):
        chance = random.Random(1105)
        for seed in range(13000, 13250):
            program = drawn.program(seed, 8 + seed % 25, tame=seed % 2 == 0)
            if agreeing.is_good(program):
                self.alike(program, chance, 80)

    def test_programs_that_agree(self):
        chance = random.Random(1106)
        found = [self.alike(program, chance, 200) for program in agreeing.programs(range(13300, 13400), 22)]
        self.assertGreater(sum(many > few for many, few in found), 50)

    def test_the_order_of_two_triggers(self):
        statement = local("A B", ("tuple", "X", "f", ("A", "B")), ("need", "B", ("int", "Y", 1)),
                          ("need", "A", ("int", "Y", 2)),
                          ("need", "B", ("int", "Z", 1)))
        machine = make(statement)
        run(machine, [])
        machine = collected(machine)
        machine.tell(machine.given(0), machine.add(read_graph("f(3 4)")))
        self.assertEqual(machine.threads(), 4)
        steps(machine, 1, 1)
        self.assertEqual(text(machine, 1), "1")
        steps(machine, 1, 2)
        self.assertEqual(raised(machine, 2), "failure")

    def test_threads_that_are_done_keep_their_numbers(self):
        machine = make(seq(("thread", SKIP), ("thread", call("Wait", "X")), ("thread", SKIP)))
        run(machine, [])
        other = collected(machine)
        self.assertEqual((statuses(other), other.waits_for(2)), (["done", "done", "waiting", "done"], 0))
        with self.assertRaises(NotReady):
            other.step(1)
        bind(other, 0, "1")
        self.assertEqual(other.ready(), [2])


def run_some(machine, chance, most):
    for _ in range(most):
        if machine.ready():
            machine.step(chance.choice(machine.ready()))


class LittleRoom(unittest.TestCase):

    def test_room_again(self):
        """What is made and not needed has taken all the room."""
        statement = seq(call("Wait", "Z"), ("int", "X", 1), ("int", "Y", 2))
        machine = make(statement)
        run(machine, [])
        fill(machine, 0)
        full = machine.copy()
        full.tell(full.given(2), full.given(2) + 1)
        run(full, [])
        self.assertEqual((node_count(full), raised(full)), (2000, "memory"))
        found = collected(machine)
        self.assertEqual((node_count(found), room_of(found)), (19, 1981))
        found.tell(found.given(2), found.given(2) + 1)
        run(found, [])
        self.assertEqual((statuses(found), texts(found, 0, 1)), (["done"], ["1", "2"]))

    def test_a_machine_whose_nodes_are_all_needed(self):
        machine = make(seq(call("Wait", "Z"), ("int", "X", 1)))
        many = 2000 - node_count(machine)
        top = None
        while many:
            part = min(many, 390)
            node = machine.add(tuple(("tuple", "f", (k + 1,)) for k in range(part - 1)) + (("var", 0),))
            end = next(k for k in range(node, node + part) if machine.graph(k) == (("var", k),))
            machine.tell(machine.given(1) if top is None else top, node)
            top, many = end, many - part
        run(machine, [])
        self.assertEqual(node_count(machine), 2000)
        found = collected(machine)
        # Only the variables that stand for tuples are gone.
        self.assertEqual(node_count(found), len(needed(machine)))
        self.assertLess(2000 - node_count(found), 10)
        self.assertEqual(node_count(collected(found)), node_count(found))

    def looping(self, many):
        """A loop that makes some nodes in each turn."""
        body = local("B O M", ("int", "O", 1), op("-", "M", "N", "O"), op("<", "B", "O", "N"), (
            "if", "B", call("P", "M"), ("atom", "X", "end")))
        program = (("X",), local("P N", ("proc", "P", ("N",), body), ("int", "N", many), call("P", "N")))
        check(program)
        return program

    def test_a_long_loop_in_a_bounded_store(self):
        machine = Machine(self.looping(500))
        while machine.ready():
            for _ in range(50):
                if machine.ready():
                    machine.step(0)
            machine = collected(machine)
            self.assertLess(node_count(machine), 40)
        self.assertEqual((machine.outcome(), machine.steps() > 5000), ((("end",), ()), True))
        plain = Machine(self.looping(500))
        for _ in range(2):
            run(plain, [])
        self.assertEqual((plain.status(0), raised(plain)), ("broken", "memory"))

    def test_collected_behind_each_step(self):
        machine, plain = Machine(self.looping(40)), Machine(self.looping(40))
        while plain.ready():
            machine.step(0)
            machine = collected(machine)
            plain.step(0)
            self.assertEqual(asked(machine, 1), asked(plain, 1))
        self.assertLess(node_count(machine), node_count(plain))
        self.assertEqual(machine.steps(), plain.steps())

    def test_a_stream(self):
        """A producer and a consumer that lets go of what it has read."""
        produce = local("M R O", seq(("tuple", "S", "cons", ("N", "R")), ("int", "O", 1), op("+", "M", "N", "O"),
                                     ("need", "R", call("P", "M", "R"))))
        consume = ("case", "S", ("tuple", "cons", ("H", "R")), call("Q", "R"), SKIP)
        program = ((), local("P Q S N", ("proc", "P", ("N", "S"), produce), ("proc", "Q", ("S",), consume),
                             ("int", "N", 0),
                             ("thread", call("Q", "S")), ("need", "S", call("P", "N", "S"))))
        check(program)
        machine = Machine(program)
        most = 0
        for turn in range(40):
            for _ in range(20):
                if machine.ready():
                    machine.step(machine.ready()[turn % len(machine.ready())])
            machine = collected(machine)
            most = max(most, node_count(machine))
        self.assertLess(most, 60)
        self.assertGreater(machine.steps(), 400)

    def test_numbers_of_what_is_new(self):
        chance = random.Random(1107)
        body = seq(call("NewCell", "X", "C"), call("NewPort", "X", "Q"), ("proc", "R", (), SKIP))
        statement = seq(*[local("C Q R", body) for _ in range(4)], call("NewCell", "X", "A"), call("NewPort", "X", "B"),
                        ("proc", "C", (), SKIP), ("thread", SKIP), ("thread", SKIP))
        machine = make(statement, "X A B C")
        while machine.ready():
            machine.step(chance.choice(machine.ready()))
            machine = collected(machine)
        self.assertEqual(texts(machine, 1, 2, 3), ["<cell 4>", "<port 4>", "<proc 4>"])
        self.assertEqual(machine.threads(), 3)
        self.assertEqual(size(machine), node_count(machine))


if __name__ == "__main__":
    unittest.main()
