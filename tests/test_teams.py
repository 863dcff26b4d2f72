"""Programs on several sites (points 42 and 43)."""

import itertools
import random
import unittest

from leatwork.errors import BadProgram, NotReady, TooMany
from leatwork.machine import Machine
from leatwork.programs import check
from leatwork.schedules import run
from leatwork.teams import Team, together
from tests import agreeing, drawn
from tests.build import SKIP, call, deep, evenly, local, op, seq
from tests.machines import statuses

ENDLESS = local("P", ("proc", "P", (), call("P")), call("P"))


def program_of(given, statement):
    program = (tuple(given.split()), statement)
    check(program)
    return program


def team_of(*pairs):
    return Team([program_of(given, statement) for given, statement in pairs])


def played(team, schedule=()):
    team.play(list(schedule))
    return team


def texts(team, site):
    return team.outcome(site)[0]


def failures(team, sites):
    return [team.failed(site) for site in range(sites)]


def asked(team, sites):
    return team.moves(), failures(team, sites), [team.outcome(site) for site in range(sites)]


def renumbered(graphs):
    """Graphs in which variables have numbers as they are met in them one after the other."""
    numbers = {}
    return [tuple(("var", numbers.setdefault(node, len(numbers))) if node[0] == "var" else node for node in graph)
            for graph in graphs]


def shared_of(programs):
    """The shared identifiers."""
    every = [x for given, _ in programs for x in given]
    return [x for x in dict.fromkeys(every) if every.count(x) > 1]


def trees_at(team, programs, site, names):
    """The trees of shared variables at a site, with numbers as they are met."""
    machine = team._members[site].machine
    return renumbered([machine.graph(machine.given(programs[site][0].index(x))) for x in names])


class One(unittest.TestCase):
    """A team of one program does what a machine does."""

    def test_against_a_machine(self):
        chance = random.Random(1601)
        for seed in range(19000, 19150):
            program = drawn.program(seed, 5 + seed % 25, tame=seed % 2 == 0)
            if not agreeing.is_good(program):
                continue
            team, machine = Team([program]), Machine(program)
            for _ in range(40):
                moves = team.moves()
                self.assertEqual(moves, [("step", 0, thread) for thread in machine.ready()])
                self.assertEqual((team.outcome(0), team.failed(0)), (machine.outcome(), False))
                if not moves:
                    break
                index = chance.randrange(len(moves))
                team.move(index)
                machine.step(moves[index][2])

    def test_play(self):
        chance = random.Random(1602)
        for seed in range(19200, 19260):
            program = drawn.program(seed, 15, tame=True)
            schedule = [chance.randrange(30) for _ in range(chance.randrange(60))]
            team, machine = Team([program]), Machine(program)
            taken = run(machine, schedule)
            if machine.ready():
                continue
            self.assertEqual(team.play(schedule), taken)
            self.assertEqual(team.outcome(0), machine.outcome())
            self.assertEqual((team.play(schedule), team.moves()), (0, []))

    def test_names_are_no_matter_where_nothing_is_shared(self):
        team = played(team_of(("X Y Z", seq(("bind", "X", "Wait"), call("NewCell", "Y", "Z")))))
        self.assertEqual((team.failed(0), texts(team, 0)), (False, ("<builtin 0>", "_0", "<cell 0>")))


class Moves(unittest.TestCase):

    def test_at_the_beginning(self):
        for many in (1, 2, 3):
            team = team_of(*[("X Y", SKIP)] * many)
            self.assertEqual(team.moves(), [("step", site, 0) for site in range(many)])
            self.assertEqual(failures(team, many), [False] * many)

    def test_their_order(self):
        team = team_of(("X", seq(("thread", ("int", "X", 1)), ("thread", SKIP), SKIP)), ("X", call("Wait", "X")),
                       ("X", SKIP))
        for move in [("step", 0, 0)] * 4 + [("step", 0, 1), ("step", 1, 0)]:
            team.move(team.moves().index(move))
        found = team.moves()
        steps = [move for move in found if move[0] == "step"]
        mails = [move for move in found if move[0] == "mail"]
        self.assertEqual(found, steps + mails)
        self.assertEqual((steps, mails), ([("step", 0, 0), ("step", 0, 2), ("step", 2, 0)], sorted(set(mails))))
        self.assertTrue(mails)
        self.assertTrue(all(sender != receiver for _, sender, receiver in mails))

    def test_no_such_move(self):
        team = team_of(("X", SKIP), ("X", SKIP))
        for index in (2, 3, 100, -1, -2):
            with self.assertRaises(NotReady):
                team.move(index)
        self.assertEqual(len(team.moves()), 2)
        played(team)
        for index in (0, 1, -1):
            with self.assertRaises(NotReady):
                team.move(index)

    def test_move_by_move(self):
        chance = random.Random(1603)
        for seed in range(40):
            programs = agreeing.team(20000 + seed, 12, 2)
            team, other = Team(programs), Team(programs)
            schedule = [chance.choice([0, 1, 2, 7, 10 ** 30 + 5]) for _ in range(30)]
            kept = list(schedule)
            taken = team.play(schedule)
            self.assertEqual(schedule, kept)
            many = 0
            while other.moves():
                n = schedule[many] if many < len(schedule) else 0
                self.assertIsNone(other.move(n % len(other.moves())))
                many += 1
            self.assertEqual((taken, asked(team, 2)), (many, asked(other, 2)))

    def test_a_program_that_never_ends(self):
        for programs in ([("X", ENDLESS)], [("X", ENDLESS), ("X", SKIP)], [("X", SKIP), ("X", ENDLESS)]):
            for schedule in ([], [0] * 6000, [1, 2, 3]):
                team = team_of(*programs)
                with self.assertRaises(TooMany):
                    team.play(schedule)
                self.assertTrue(team.moves())

    def test_5000_moves(self):
        def calling(many):
            return local("P", ("proc", "P", (), evenly([SKIP] * 40)), evenly([call("P")] * many))

        def steps(statement):
            return Team([program_of("X", statement)]).play([])

        # Two sites make somewhat fewer steps; the third one makes the rest.
        many = max(k for k in range(1, 55) if 2 * steps(calling(k)) < 5000)
        rest = 5000 - 2 * steps(calling(many))
        for more, fits in [(-1, True), (0, True), (1, False)]:
            team = Team([program_of("X", calling(many)), program_of("X", calling(many)),
                         program_of("X", taking(rest + more))])
            if fits:
                self.assertEqual((team.play([0] * 3 + [1] * 4000), team.moves()), (5000 + more, []))
            else:
                with self.assertRaises(TooMany):
                    team.play([])
                self.assertEqual(len(team.moves()), 1)
                self.assertEqual(team.play([]), 1)


def taking(many):
    """A statement for one thread that takes so many steps."""
    return evenly([SKIP] * ((many + 1) // 2)) if many % 2 else ("local", "A", taking(many - 1))


class Sharing(unittest.TestCase):

    def test_a_value(self):
        for text, statement in [("5", ("int", "X", 5)), ("a", ("atom", "X", "a")),
                                ("f(1)", local("A", ("int", "A", 1), ("tuple", "X", "f", ("A",)))),
                                ("0=f(@0)", ("tuple", "X", "f", ("X",)))]:
            team = played(team_of(("X", statement), ("Y X", SKIP), ("X Z", SKIP)))
            self.assertEqual([texts(team, 0), texts(team, 1), texts(team, 2)], [(text,), ("_0", text), (text, "_0")])

    def test_only_the_same_identifiers_are_shared(self):
        team = played(team_of(("X Y", ("int", "Y", 1)), ("X Z", ("int", "Z", 2)), ("U", ("int", "U", 3))))
        self.assertEqual([texts(team, site) for site in range(3)], [("_0", "1"), ("_0", "2"), ("3",)])
        # What a statement makes known is not shared.
        team = played(team_of(("X", local("Y", ("int", "Y", 1))), ("Y X", SKIP)))
        self.assertEqual(texts(team, 1), ("_0", "_1"))

    def test_two_of_three(self):
        team = played(team_of(("X", ("int", "X", 1)), ("Y", SKIP), ("X Y", SKIP)))
        self.assertEqual([texts(team, site) for site in range(3)], [("1",), ("_0",), ("1", "_0")])

    def test_it_is_not_there_before_it_arrives(self):
        team = team_of(("X", ("int", "X", 1)), ("X", SKIP))
        team.move(0)
        self.assertEqual((texts(team, 0), texts(team, 1)), (("1",), ("_0",)))
        played(team)
        self.assertEqual((texts(team, 0), texts(team, 1)), (("1",), ("1",)))

    def test_a_thread_that_waits_is_woken(self):
        team = team_of(("X", seq(SKIP, ("int", "X", 3))), ("X Y", op("+", "Y", "X", "X")))
        team.move(team.moves().index(("step", 1, 0)))
        self.assertEqual(team.outcome(1)[1], (("waiting", 1),))
        played(team)
        self.assertEqual((texts(team, 1), team.outcome(1)[1]), (("3", "6"), ()))

    def test_a_trigger_is_started(self):
        team = team_of(("X", ("int", "X", 3)), ("X Y", ("need", "X", ("int", "Y", 4))))
        played(team, [1, 1, 1])
        self.assertEqual(texts(team, 1), ("3", "4"))
        team = played(team_of(("X Y", ("bind", "X", "Y")), ("X Y Z",
                                                            seq(("need", "X", ("int", "Z", 4)), call("Wait", "Y")))))
        self.assertEqual((texts(team, 1), team.outcome(1)[1]), (("_0", "_0", "4"), (("waiting", 1),)))

    def test_the_order_of_two_triggers(self):
        """One step binds both; the triggers start in the order in which they were put."""
        one = local("A B T U", ("int", "A", 1), ("int", "B", 2), ("tuple", "T", "f", ("X", "Y")),
                    ("tuple", "U", "f", ("A", "B")), (
            "bind", "T", "U"))
        for names in ("XY", "YX"):
            other = seq(*[("need", name, ("int", "Z", k)) for k, name in enumerate(names)])
            team = team_of(("X Y", one), ("X Y Z", other))
            while ("step", 1, 0) in team.moves():
                team.move(team.moves().index(("step", 1, 0)))
            while ("step", 0, 0) in team.moves():
                team.move(0)
            team.move(0)
            self.assertEqual((team.moves(), texts(team, 1)), ([("step", 1, 1), ("step", 1, 2)], ("1", "2", "_0")))
            team.move(0)
            self.assertEqual(texts(team, 1)[2], "0")

    def test_equal_variables(self):
        for schedule in ([], [1], [1, 1], [2, 1, 0]):
            team = played(team_of(("X Y", ("bind", "X", "Y")), ("X Y", SKIP), ("Y", ("int", "Y", 8))), schedule)
            self.assertEqual([texts(team, site) for site in range(3)], [("8", "8"), ("8", "8"), ("8",)])
            team = played(team_of(("X Y Z", ("bind", "X", "Z")), ("X Y Z", ("bind", "Y", "Z"))), schedule)
            self.assertEqual([texts(team, site) for site in range(2)], [("_0", "_0", "_0")] * 2)

    def test_equal_through_what_is_not_shared(self):
        statement = local("A B", ("bind", "A", "X"), ("bind", "B", "Y"), ("tuple", "Z", "f", ("A",)),
                          local("T", ("tuple", "T", "f", ("B",)), (
            "bind", "T", "Z")))
        team = played(team_of(("X Y Z", statement), ("X Y", SKIP)))
        self.assertEqual(texts(team, 1), ("_0", "_0"))

    def test_parts_are_shared_too(self):
        """What one site makes of a part of a tree arrives at the one that made the tree."""
        make = local("A", ("tuple", "X", "f", ("A", "A")), op("+", "Y", "A", "A"))
        fill = ("case", "X", ("tuple", "f", ("B", "C")), local("D", ("tuple", "B", "g", ("D",))), SKIP)
        more = ("case", "X", ("tuple", "f", ("B", "C")), ("case", "C", ("tuple", "g", ("D",)), ("int", "D", 4), SKIP),
                SKIP)
        chance = random.Random(1604)
        for _ in range(20):
            team = played(team_of(("X Y", make), ("X", fill), ("X", more)), [chance.randrange(9) for _ in range(20)])
            self.assertEqual([texts(team, site)[0] for site in range(3)], ["f(g(4) g(4))"] * 3)
            self.assertEqual(team.outcome(0)[1], (("broken", 1),))

    def test_the_same_tree_from_two_sites(self):
        """Both make the tree, with different variables, which become equal."""
        chance = random.Random(1605)
        for _ in range(30):
            one = local("A", ("tuple", "X", "f", ("A", "Y")), ("int", "A", 1))
            other = local("A B", ("tuple", "X", "f", ("A", "B")), ("tuple", "B", "g", ("A",)))
            team = played(team_of(("X Y", one), ("X Z", other), ("Y", SKIP)), [chance.randrange(9) for _ in range(20)])
            self.assertEqual([texts(team, 0), texts(team, 1)[0], texts(team, 2)],
                             [("f(1 g(1))", "g(1)"), "f(1 g(1))", ("g(1)",)])

    def test_infinite_trees(self):
        team = played(team_of(("X Y", ("tuple", "X", "f", ("Y",))), ("X Y", ("tuple", "Y", "f", ("X",))),
                              ("Y X", SKIP)))
        self.assertEqual([texts(team, site) for site in range(3)], [("0=f(@0)", "0=f(@0)")] * 3)

    def test_a_stream_between_sites(self):
        produce = local("B O M R", ("int", "O", 0), op("==", "B", "N", "O"), ("if", "B", ("atom", "S", "nil"), seq(
            ("tuple", "S", "cons", ("N", "R")), local("Q", ("int", "Q", 1), op("-", "M", "N", "Q")),
            call("P", "M", "R"))))
        consume = ("case", "S", ("tuple", "cons", ("H", "R")), local("C", op("+", "C", "A", "H"), call("Q", "R", "C")),
                   ("bind", "T", "A"))
        programs = [program_of("S", local("P N", ("proc", "P", ("N", "S"), produce), ("int", "N", 8),
                                          call("P", "N", "S"))),
                    program_of("S T", local("Q Z", ("proc", "Q", ("S", "A"), consume), ("int", "Z", 0),
                                            call("Q", "S", "Z")))]
        chance = random.Random(1606)
        for _ in range(10):
            team = Team(programs)
            team.play([chance.randrange(20) for _ in range(200)])
            self.assertEqual((texts(team, 1)[1], [team.outcome(site)[1] for site in (0, 1)]), ("36", [(), ()]))

    def test_more_than_400_nodes(self):
        """MOST_NODES does not hold for what is sent."""
        body = local("B O M R", ("int", "O", 0), op("==", "B", "N", "O"), ("if", "B", ("atom", "S", "nil"), seq(
            ("tuple", "S", "f", ("R",)), local("Q", ("int", "Q", 1), op("-", "M", "N", "Q")), call("P", "M", "R"))))
        make = local("P N S", ("proc", "P", ("N", "S"), body), ("int", "N", 150), call("P", "N", "S"),
                     ("bind", "X", "S"))
        measure = local("L", ("proc", "L", ("S",), ("case", "S", ("tuple", "f", ("R",)), call("L", "R"),
                                                    ("int", "Y", 7))), call("L", "X"))
        team = played(team_of(("X", make), ("X Y", measure)))
        self.assertEqual(texts(team, 1)[1], "7")
        # More than 100 variables.
        self.assertEqual(failures(team, 2), [False, False])


class Failing(unittest.TestCase):

    def all_fail(self, *pairs):
        chance = random.Random(1607)
        for turn in range(12):
            team = team_of(*pairs)
            team.play([chance.randrange(20) for _ in range(5 * turn)])
            self.assertEqual(failures(team, len(pairs)), [True] * len(pairs))
            self.assertEqual(team.moves(), [])
            for site in range(len(pairs)):
                team.outcome(site)

    def fail_or_break(self, *pairs):
        """Where a message arrives before the step that contradicts it, this step fails, and no site."""
        chance = random.Random(1607)
        found = {}
        for turn in range(40):
            team = team_of(*pairs)
            team.play([chance.randrange(20) for _ in range(turn)])
            failed = failures(team, len(pairs))
            broken = ("broken", 1) in [pair for site in range(len(pairs)) for pair in team.outcome(site)[1]]
            self.assertEqual((len(set(failed)), failed[0] or broken), (1, True))
            found[failed[0]] = True
        self.assertEqual(sorted(found), [False, True])

    def test_names_cannot_be_sent(self):
        for statement in [("bind", "X", "Wait"), call("NewCell", "Y", "X"), call("NewPort", "Y", "X"),
                          ("proc", "X", (), SKIP),
                          ("tuple", "X", "f", ("Y", "Part")), local("C", call("NewCell", "Y", "C"),
                                                                    ("tuple", "X", "f", ("C",))),
                          local("C D", ("tuple", "X", "f", ("C",)), ("tuple", "C", "g", ("D",)),
                                ("proc", "D", (), SKIP))]:
            self.all_fail(("X Y", statement), ("X", SKIP))
            self.all_fail(("X Y", SKIP), ("X", call("Wait", "X")), ("X Y", statement))

    def test_behind_the_move_after_which_it_would_be_sent(self):
        team = team_of(("X Y", seq(("bind", "Y", "Wait"), ("bind", "X", "Y"), ("int", "Y", 1))), ("X", SKIP))
        for _ in range(2):
            team.move(0)
        # Y is not shared.
        self.assertEqual(failures(team, 2), [False, False])
        while team.moves()[0][:2] == ("step", 0) and not team.failed(0):
            team.move(0)
        self.assertEqual((team.failed(0), texts(team, 0)), (True, ("<builtin 0>", "<builtin 0>")))
        self.assertEqual([move for move in team.moves() if move[:2] == ("step", 0)], [])

    def test_names_that_arise_elsewhere(self):
        """One site makes the tree, and another one binds a part of it to a name."""
        self.all_fail(("X", local("A", ("tuple", "X", "f", ("A",)))),
                      ("X", ("case", "X", ("tuple", "f", ("B",)), ("bind", "B", "Wait"), SKIP)))
        self.all_fail(("X Y", local("A", ("tuple", "X", "f", ("A",)), ("bind", "A", "Y"))),
                      ("Y", call("NewCell", "Y", "Y")))

    def test_names_beside(self):
        team = played(team_of(("X Y", seq(("bind", "Y", "Wait"), ("int", "X", 1))), ("X Z", ("proc", "Z", (), SKIP))))
        self.assertEqual((failures(team, 2), texts(team, 0)), ([False, False], ("1", "<builtin 0>")))

    def test_equations_that_cannot_hold(self):
        self.fail_or_break(("X", ("int", "X", 1)), ("X", ("int", "X", 2)))
        self.fail_or_break(("X Y", ("bind", "X", "Y")), ("X", ("int", "X", 1)), ("Y", ("atom", "Y", "a")))
        self.fail_or_break(("X", local("A", ("tuple", "X", "f", ("A", "A")))),
                      ("X", local("A B", ("int", "A", 1), ("int", "B", 2), (
            "tuple", "X", "f", ("A", "B")))))

    def test_a_thread_that_fails_is_no_site(self):
        team = played(team_of(("X", seq(("int", "X", 1), ("int", "X", 2))), ("X", SKIP)))
        self.assertEqual((failures(team, 2), team.outcome(0)[1], texts(team, 1)),
                         ([False, False], (("broken", 1),), ("1",)))

    def test_a_failed_site_makes_no_steps(self):
        team = team_of(("X", seq(("bind", "X", "Wait"), SKIP)), ("X", ENDLESS))
        for _ in range(2):
            team.move(0)
        self.assertEqual(failures(team, 2), [True, False])
        self.assertEqual(team.moves(), [("step", 1, 0), ("mail", 0, 1)])
        team.move(1)
        self.assertEqual((failures(team, 2), [move for move in team.moves() if move[0] == "step"]), ([True, True], []))
        self.assertLess(team.play([]), 3)

    def test_messages_to_failed_sites_are_moves(self):
        team = team_of(("X Y", ("bind", "X", "Wait")), ("X Y", ("int", "Y", 1)))
        team.move(1)
        team.move(0)
        self.assertIn(("mail", 1, 0), team.moves())
        while team.moves():
            team.move(len(team.moves()) - 1)
        self.assertEqual(failures(team, 2), [True, True])

    def test_no_room(self):
        """The store of the second site is full when the value arrives."""
        body = local("A", call("P"))
        fill = local("P", ("proc", "P", (), body), ("try", call("P"), "E", SKIP))
        team = team_of(("X", ("int", "X", 1)), ("X", fill))
        while ("step", 1, 0) in team.moves():
            team.move(team.moves().index(("step", 1, 0)))
        self.assertEqual(team.outcome(1)[1], ())
        played(team)
        self.assertEqual(failures(team, 2), [True, True])


class Copies(unittest.TestCase):

    def test_both_ways(self):
        chance = random.Random(1608)
        for seed in range(60):
            programs = agreeing.team(20100 + seed, 12, 1 + seed % 3)
            sites = len(programs)
            team = Team(programs)
            for _ in range(chance.randrange(30)):
                if team.moves():
                    team.move(chance.randrange(len(team.moves())))
            copied = team.copy()
            self.assertIs(type(copied), Team)
            one, other = (team, copied) if seed % 2 else (copied, team)
            before = asked(other, sites)
            self.assertEqual(asked(one, sites), before)
            schedule = [chance.randrange(50) for _ in range(40)]
            first = one.play(schedule)
            self.assertEqual(asked(other, sites), before)
            self.assertEqual(other.play(schedule), first)
            self.assertEqual(asked(one, sites), asked(other, sites))

    def test_failed_sites(self):
        team = team_of(("X", seq(("bind", "X", "Wait"), SKIP)), ("X", SKIP))
        copied = team.copy()
        for _ in range(2):
            team.move(0)
        self.assertEqual((failures(team, 2), failures(copied, 2)), ([True, False], [False, False]))
        again = team.copy()
        self.assertEqual((failures(again, 2), again.moves()), ([True, False], team.moves()))
        for one in (team, copied, again):
            one.play([])
            self.assertEqual(failures(one, 2), [True, True])

    def test_the_list_of_programs_is_not_kept(self):
        programs = [program_of("X", ("int", "X", 1)), program_of("X", SKIP)]
        team = Team(programs)
        text = repr(programs)
        team.play([])
        self.assertEqual(repr(programs), text)
        programs.clear()
        team.moves().clear()
        self.assertEqual(texts(team, 1), ("1",))


class TogetherForms(unittest.TestCase):

    def test_one_two_and_three(self):
        s, t, u = ("int", "X", 1), ("bind", "Y", "X"), ("bind", "Z", "Y")
        one, two, three = program_of("X", s), program_of("Y X", t), program_of("Z A Y", u)
        self.assertEqual(together([one]), (("X",), ("thread", s)))
        self.assertEqual(together([one, two]), (("X", "Y"), ("seq", ("thread", s), ("thread", t))))
        self.assertEqual(together([three, one]), (("Z", "A", "Y", "X"), ("seq", ("thread", u), ("thread", s))))
        self.assertEqual(together([one, two, three]), (
            ("X", "Y", "Z", "A"), ("seq", ("thread", s), ("seq", ("thread", t), ("thread", u)))))
        self.assertEqual(together([((), SKIP)]), ((), ("thread", SKIP)))

    def test_12_and_13_given_variables(self):
        names = [f"X{k}" for k in range(13)]
        for first, second, fits in [(12, 12, True), (12, 6, True), (12, 13, False), (6, 13, False)]:
            programs = [(tuple(names[:first]), SKIP), (tuple(names[second - 7 if second > 6 else 0:second]), SKIP)]
            for program in programs:
                check(program)
            many = len({x for given, _ in programs for x in given})
            self.assertEqual(many <= 12, fits)
            self.good_or_not(programs, fits)

    def good_or_not(self, programs, fits):
        for program in programs:
            check(program)
        if fits:
            check(together(programs))
        else:
            with self.assertRaises(BadProgram):
                together(programs)

    def test_30_and_31_deep(self):
        small = ((), SKIP)
        for many, more in [(1, 1), (2, 2), (3, 3)]:
            for depth, fits in [(30 - more, True), (31 - more, False)]:
                program = ((), deep(depth))
                last = [small] * (many - 1) + [program]
                self.good_or_not(last, fits)
        # The first one of three is less deep inside.
        for depth, fits in [(28, True), (29, False)]:
            self.good_or_not([((), deep(depth)), small, small], fits)
            self.good_or_not([((), deep(depth)), small], fits)

    def test_200_and_201_statements(self):
        def of(many):
            return ((), evenly([SKIP] * ((many + 1) // 2)) if many % 2 else ("local", "A", of(many - 1)[1]))
        for sizes, fits in [((199,), True), ((200,), False), ((98, 99), True), ((99, 99), False), ((100, 97), True),
                            ((65, 65, 65), True), ((65, 65, 66), False), ((1, 1, 193), True), ((1, 194, 1), False)]:
            self.good_or_not([of(many) for many in sizes], fits)

    def test_it_changes_nothing(self):
        programs = [program_of("X", SKIP), program_of("X Y", SKIP)]
        kept = list(programs)
        self.assertEqual(together(programs), together(programs))
        self.assertEqual(programs, kept)


class AgainstTogether(unittest.TestCase):

    def same_everywhere(self, team, programs):
        """When no move is left: the same trees at all sites."""
        for one, other in itertools.combinations(range(len(programs)), 2):
            names = [x for x in shared_of(programs) if x in programs[one][0] and x in programs[other][0]]
            self.assertEqual(trees_at(team, programs, one, names), trees_at(team, programs, other, names))

    def compare(self, programs, chance, plays):
        """Programs whose statements agree: nothing is raised, and no site fails."""
        whole = Machine(together(programs))
        run(whole, [chance.randrange(50) for _ in range(100)])
        self.assertEqual((whole.ready(), "broken" in statuses(whole)), ([], False))
        for _ in range(plays):
            team = Team(programs)
            team.play([chance.randrange(1000) for _ in range(chance.randrange(200))])
            self.assertEqual((team.moves(), failures(team, len(programs))), ([], [False] * len(programs)))
            counts = {}
            for site in range(len(programs)):
                for status, number in team.outcome(site)[1]:
                    counts[status] = counts.get(status, 0) + number
            self.assertEqual(tuple(sorted(counts.items())), whole.outcome()[1])
            every = together(programs)[0]
            for site, (given, _) in enumerate(programs):
                names = [x for x in shared_of(programs) if x in given]
                expected = renumbered([whole.graph(whole.given(every.index(x))) for x in names])
                self.assertEqual(trees_at(team, programs, site, names), expected)
            self.same_everywhere(team, programs)
        return max([len(graph) for graph in expected], default=1)

    def drawn(self, seeds, size, many):
        for seed in seeds:
            programs = agreeing.team(seed, size, many)
            try:
                together(programs)
            except BadProgram:
                continue
            yield programs

    def test_two_programs(self):
        chance = random.Random(1609)
        sizes = [self.compare(programs, chance, 3) for programs in self.drawn(range(21000, 21150), 16, 2)]
        self.assertGreater(sum(many > 2 for many in sizes), 30)

    def test_three_programs(self):
        chance = random.Random(1610)
        sizes = [self.compare(programs, chance, 3) for programs in self.drawn(range(22000, 22120), 14, 3)]
        self.assertGreater(sum(many > 2 for many in sizes), 25)

    def test_one_program(self):
        chance = random.Random(1611)
        for programs in self.drawn(range(23000, 23040), 16, 1):
            self.compare(programs, chance, 2)

    def test_any_declarative_programs(self):
        """With failures: if a thread of `together` is broken, a site has failed or has a broken thread."""
        chance = random.Random(1612)
        kinds = {}
        for seed in range(24000, 24500):
            programs = self.any_programs(seed)
            try:
                whole = Machine(together(programs))
            except BadProgram:
                continue
            run(whole, [chance.randrange(50) for _ in range(100)])
            if whole.ready() or self.raises_others(whole) or "<" in "".join(whole.outcome()[0]):
                continue
            team = Team(programs)
            try:
                team.play([chance.randrange(1000) for _ in range(chance.randrange(100))])
            except TooMany:
                continue
            if any(self.raises_others(member.machine) for member in team._members):
                continue
            failed = failures(team, len(programs))
            broken = any(status == "broken" for site in range(len(programs)) for status, _ in team.outcome(site)[1])
            self.assertEqual(len(set(failed)), 1)
            if "broken" in statuses(whole):
                self.assertTrue(failed[0] or broken, programs)
            if not failed[0]:
                self.same_everywhere(team, programs)
            kinds["broken" in statuses(whole), failed[0], broken] = True
        self.assertTrue({(True, True, False), (True, False, True), (False, False, False)} <= set(kinds))

    def any_programs(self, seed):
        chance = random.Random(seed)
        drawing = drawn.Drawing(chance, declarative=True, needs=False, tame=True)
        programs = []
        for _ in range(chance.choice([2, 2, 3])):
            given = tuple(sorted(chance.sample("XYZU", chance.randint(1, 3))))
            parts = [drawing.statement([*given, "Q"], 5) for _ in range(chance.randint(1, 2))]
            programs.append((given, local("Q", *[("thread", part) for part in parts[1:]], parts[0])))
        return programs

    def raises_others(self, machine):
        raised = [machine.raised(thread) for thread in range(machine.threads())]
        return any(graph not in (None, (("atom", "failure"),)) for graph in raised)

    def test_programs_with_cells_and_needs(self):
        """What is not declarative may do other things, but the sites agree when no move is left."""
        chance = random.Random(1613)
        for seed in range(25000, 25300):
            drawing = drawn.Drawing(random.Random(seed), tame=True)
            programs = [(("X", "Y"), drawing.statement(["X", "Y"], 8)) for _ in range(2)]
            if not all(agreeing.is_good(program) for program in programs):
                continue
            team = Team(programs)
            try:
                team.play([chance.randrange(1000) for _ in range(80)])
            except TooMany:
                continue
            self.assertEqual(len(set(failures(team, 2))), 1)
            if not team.failed(0):
                self.same_everywhere(team, programs)
                self.assertNotIn("<", "".join(texts(team, 0)))


if __name__ == "__main__":
    unittest.main()
