"""Sites that share variables (points 39 to 41)."""

import itertools
import random
import unittest

from leatwork.errors import Failed, NotReady, TooMany
from leatwork.graphs import is_graph, least
from leatwork.sites import MOST_MAIL, Net
from leatwork.store import Store
from leatwork.texts import graph_text, read_graph
from tests import shapes
from tests.agreeing import Trees


def net_of(sites, shared, know=True):
    """A net with so many shared variables, which all sites know, or only those that made them, in turn."""
    net = Net(sites)
    for x in range(shared):
        assert net.make(x % sites) == x
    if know:
        for site in range(sites):
            for x in range(shared):
                net.know(site, x)
    return net


def says(net, site, x):
    return graph_text(net.value(site, x))


class Together:
    """One store with all equations that were told anywhere."""

    def __init__(self, shared):
        self.store = Store()
        for _ in range(shared):
            self.store.variable()

    def nodes_of(self, graph):
        """The root of the tree of a graph whose variables are shared ones."""
        first = self.store.size()
        places = {}
        for k, node in enumerate(graph):
            places[k] = node[1] if node[0] == "var" else first + len([1 for other in graph[:k] if other[0] != "var"])
        for node in graph:
            if node[0] == "tuple":
                self.store.tuple_of(node[1], [places[part] for part in node[2]])
            elif node[0] == "int":
                self.store.integer(node[1])
            elif node[0] == "atom":
                self.store.atom(node[1])
        return places[0]

    def tell(self, x, graph):
        """Returns False if this cannot hold together with the others."""
        try:
            self.store.unify(x, self.nodes_of(graph))
        except Failed:
            return False
        return True

    def implies(self, x, graph):
        store = self.store.copy()
        self_copy = Together(0)
        self_copy.store = store
        return store.would_unify(x, self_copy.nodes_of(graph)) == "yes"

    def value(self, x, known):
        """The least graph of a shared variable, with the least numbers of those that are known."""
        numbers = {}
        for y in sorted(known):
            numbers.setdefault(self.store.representative(y), y)
        return tuple(("var", numbers[node[1]]) if node[0] == "var" else node for node in self.store.graph(x))


class Watched:
    """A net, and what was told anywhere; what the sites say is asked behind each change."""

    def __init__(self, case, sites, shared, know):
        self.case = case
        self.sites = sites
        self.shared = shared
        self.net = net_of(sites, shared, know)
        self.all = Together(shared)
        self.can_be = True
        self.bound = {}
        self.known = {}

    def tell(self, site, x, graph):
        if self.net.failed(site):
            with self.case.assertRaises(Failed):
                self.net.tell(site, x, graph)
            return
        self.can_be = self.all.tell(x, graph) and self.can_be
        try:
            self.case.assertIsNone(self.net.tell(site, x, graph))
            self.case.assertIs(self.net.failed(site), False)
            for y in [x] + [node[1] for node in least(graph) if node[0] == "var"]:
                self.case.assertIs(self.net.knows(site, y), True)
        except Failed:
            self.case.assertIs(self.net.failed(site), True)
        self.look()

    def deliver(self, chance):
        pairs = self.net.pending()
        self.case.assertEqual(pairs, sorted(pairs))
        self.case.assertTrue(all(number > 0 and sender != receiver for sender, receiver, number in pairs))
        if not pairs:
            return False
        sender, receiver, number = chance.choice(pairs)
        self.case.assertIsNone(self.net.deliver(sender, receiver))
        left = dict((pair[:2], pair[2]) for pair in self.net.pending())
        self.case.assertEqual(left.get((sender, receiver), 0), number - 1)
        self.look()
        return True

    def look(self):
        """What each site says follows from all equations; it goes on to know, and what is bound stays so."""
        for site in range(self.sites):
            if self.net.failed(site):
                self.case.assertIs(self.can_be, False)
                continue
            for x in range(self.shared):
                if not self.net.knows(site, x):
                    self.case.assertNotIn((site, x), self.known)
                    continue
                self.known[site, x] = True
                graph = self.net.value(site, x)
                self.case.assertEqual(graph, least(graph))
                self.case.assertTrue(is_graph(graph))
                for node in graph:
                    if node[0] == "var":
                        self.case.assertIs(self.net.knows(site, node[1]), True)
                if self.can_be:
                    self.case.assertTrue(self.all.implies(x, graph))
                if (site, x) in self.bound:
                    self.case.assertEqual(graph[0][:2], self.bound[site, x])
                elif graph[0][0] != "var":
                    self.bound[site, x] = graph[0][:2]

    def end(self):
        """When no message is on its way."""
        self.case.assertEqual(self.net.pending(), [])
        failed = [self.net.failed(site) for site in range(self.sites)]
        self.case.assertEqual(failed, [not self.can_be] * self.sites)
        for site in range(self.sites):
            known = [x for x in range(self.shared) if self.net.knows(site, x)]
            for x in known if self.can_be else []:
                self.case.assertEqual(self.net.value(site, x), self.all.value(x, known))


class Variables(unittest.TestCase):

    def test_make_and_know(self):
        net = Net(3)
        self.assertEqual([net.make(1), net.make(0), net.make(1)], [0, 1, 2])
        self.assertEqual([[net.knows(site, x) for x in range(3)] for site in range(3)],
                         [[False, True, False], [True, False, True], [False, False, False]])
        self.assertIsNone(net.know(2, 1))
        self.assertIs(net.knows(2, 1), True)
        self.assertIs(net.knows(2, 0), False)
        net.know(2, 1)
        self.assertEqual([net.value(0, 1), net.value(1, 0), net.value(1, 2), net.value(2, 1)],
                         [(("var", 1),), (("var", 0),), (("var", 2),), (("var", 1),)])

    def test_100_and_101(self):
        for sites in (1, 4):
            net = Net(sites)
            self.assertEqual([net.make(k % sites) for k in range(100)], list(range(100)))
            for site in range(sites):
                with self.assertRaises(TooMany):
                    net.make(site)
            self.assertIs(net.knows(99 % sites, 99), True)
            net.tell(0, 99, (("tuple", "f", (1,)), ("var", 0)))
            net.settle([])
            self.assertEqual(says(net, sites - 1, 99), "f(_0)")
            with self.assertRaises(TooMany):
                net.make(0)

    def test_tell_makes_them_known(self):
        # Site 0 has made 0, 2, 4 and 6, and site 1 the others.
        net = net_of(2, 8, False)
        net.tell(0, 1, (("tuple", "f", (1, 2)), ("var", 3), ("tuple", "g", (3,)), ("var", 5), ("var", 7)))
        # The last node is no part of the tree.
        self.assertEqual([net.knows(0, x) for x in (1, 3, 5, 7)], [True, True, True, False])
        self.assertEqual(says(net, 0, 1), "f(_3 g(_5))")
        net = net_of(2, 8, False)
        net.tell(1, 0, (("var", 2),))
        self.assertEqual([net.knows(1, x) for x in (0, 2, 4, 6)], [True, True, False, False])
        self.assertEqual([says(net, 1, 0), says(net, 1, 2)], ["_0", "_0"])

    def test_the_least_number_that_the_site_knows(self):
        net = net_of(2, 4, False)
        net.tell(0, 0, (("var", 1),))
        net.tell(0, 1, (("var", 2),))
        net.tell(0, 2, (("var", 3),))
        net.settle([])
        known = [x for x in range(4) if net.knows(1, x)]
        for x in known:
            self.assertEqual(net.value(1, x), (("var", min(known)),))
        net.know(1, 0)
        self.assertEqual(says(net, 1, 3), "_0")

    def test_to_know_one_later(self):
        """Who gets to know a variable that has a value elsewhere says it as soon as no message is on its way."""
        for when in (0, 1, 2):
            net = Net(2)
            x, y = net.make(0), net.make(0)
            if when == 0:
                net.know(1, x)
            net.tell(0, x, (("tuple", "f", (1, 1)), ("var", y)))
            if when == 1:
                net.know(1, x)
            net.tell(0, y, read_graph("5"))
            net.settle([])
            if when == 2:
                net.know(1, x)
                net.settle([])
            self.assertEqual(says(net, 1, x), "f(5 5)")


class Messages(unittest.TestCase):

    def test_nothing_is_on_its_way_at_the_beginning(self):
        for sites in (1, 2, 3, 4):
            net = Net(sites)
            self.assertEqual((net.pending(), net.settle([]), net.settle([1, 2])), ([], 0, 0))
            self.assertEqual([net.failed(site) for site in range(sites)], [False] * sites)
            for pair in itertools.permutations(range(sites), 2):
                with self.assertRaises(NotReady):
                    net.deliver(*pair)

    def test_a_site_changes_only_by_what_arrives(self):
        net = net_of(2, 2)
        net.tell(0, 0, read_graph("f(1)"))
        self.assertEqual([says(net, 0, 0), says(net, 1, 0)], ["f(1)", "_0"])
        net.tell(1, 1, read_graph("2"))
        self.assertEqual([says(net, 0, 1), says(net, 1, 1)], ["_1", "2"])
        self.assertTrue(net.pending())
        net.settle([])
        self.assertEqual([says(net, site, x) for site in (0, 1) for x in (0, 1)], ["f(1)", "2", "f(1)", "2"])

    def test_the_oldest_one_first(self):
        net = net_of(3, 4)
        for x in range(4):
            net.tell(0, x, (("int", x),))
        with self.assertRaises(Failed):
            net.tell(0, 0, (("int", 5),))
        while net.pending() and not net.failed(1):
            before = [says(net, 1, x) for x in range(4)]
            many = before.count("_0") + before.count("_1") + before.count("_2") + before.count("_3")
            # What was told first is known first, and the word that the site has failed comes last.
            self.assertEqual(before, [str(x) if x < 4 - many else f"_{x}" for x in range(4)])
            net.deliver(0, 1)
        self.assertEqual((many, net.failed(1), net.failed(2)), (0, True, False))

    def test_one_site(self):
        net = net_of(1, 3)
        net.tell(0, 0, (("tuple", "f", (1, 0)), ("var", 1)))
        net.tell(0, 1, (("var", 2),))
        self.assertEqual((net.pending(), net.settle([])), ([], 0))
        self.assertEqual([says(net, 0, x) for x in range(3)], ["0=f(_1 @0)", "_1", "_1"])
        with self.assertRaises(NotReady):
            net.deliver(0, 0)

    def test_wrong_pairs(self):
        net = net_of(3, 1)
        net.tell(0, 0, read_graph("1"))
        before = net.pending()
        for pair in itertools.product(range(3), repeat=2):
            if pair not in [row[:2] for row in before]:
                with self.assertRaises(NotReady):
                    net.deliver(*pair)
        self.assertEqual(net.pending(), before)

    def test_settle_takes_the_pairs_by_the_schedule(self):
        for schedule in ([], [0], [1, 2, 3], [10 ** 30 + 7] * 9, [5, 3, 1, 1, 2] * 10):
            net = net_of(4, 3)
            for site in range(4):
                net.tell(site, site % 3, (("tuple", "f", (1,)), ("var", (site + 1) % 3)))
            other = net.copy()
            kept = list(schedule)
            taken = net.settle(schedule)
            self.assertEqual(schedule, kept)
            many = 0
            while other.pending():
                pairs = other.pending()
                n = schedule[many] if many < len(schedule) else 0
                other.deliver(*pairs[n % len(pairs)][:2])
                many += 1
            self.assertEqual(taken, many)
            self.assertEqual([net.value(site, x) for site in range(4) for x in range(3)],
                             [other.value(site, x) for site in range(4) for x in range(3)])
            self.assertEqual(net.settle(schedule), 0)

    def test_more_than_5000_messages(self):
        self.assertEqual(MOST_MAIL, 5000)
        net = net_of(2, 1)
        many = 0
        while sum(row[2] for row in net.pending()) <= 5000 and many < 10 ** 5:
            # The same again; a site may keep this to itself.
            net.tell(many % 2, 0, (("var", 0),))
            many += 1
            if many % 1000 == 0 and sum(row[2] for row in net.pending()) < many // 2:
                return
        before = sum(row[2] for row in net.pending())
        with self.assertRaises(TooMany):
            net.settle([])
        self.assertEqual(sum(row[2] for row in net.pending()), before - 5000)
        net.settle([])
        self.assertEqual(net.pending(), [])

    def test_results_are_new_lists(self):
        net = net_of(2, 1)
        net.tell(0, 0, read_graph("1"))
        net.pending().clear()
        self.assertEqual(len(net.pending()), 1)


class Failing(unittest.TestCase):

    def test_at_one_site(self):
        for sites in (1, 2, 4):
            net = net_of(sites, 2)
            net.tell(0, 0, read_graph("1"))
            with self.assertRaises(Failed):
                net.tell(0, 0, read_graph("2"))
            self.assertEqual([net.failed(site) for site in range(sites)], [True] + [False] * (sites - 1))
            # It has sent the word of it to each other one.
            self.assertEqual([row[:2] for row in net.pending()], [(0, site) for site in range(1, sites)])
            for ask in (lambda: net.make(0), lambda: net.know(0, 1), lambda: net.tell(0, 1, read_graph("1"))):
                with self.assertRaises(Failed):
                    ask()
            before = net.pending()
            self.assertEqual(net.pending(), before)
            net.settle([])
            self.assertEqual([net.failed(site) for site in range(sites)], [True] * sites)

    def test_between_sites(self):
        net = net_of(3, 1)
        net.tell(0, 0, read_graph("1"))
        net.tell(1, 0, read_graph("2"))
        self.assertEqual([net.failed(site) for site in range(3)], [False] * 3)
        net.settle([1, 2, 0, 1])
        self.assertEqual([net.failed(site) for site in range(3)], [True] * 3)

    def test_failed_comes_before_too_many(self):
        net = net_of(2, 100)
        net.tell(0, 0, read_graph("1"))
        with self.assertRaises(Failed):
            net.tell(0, 0, read_graph("a"))
        with self.assertRaises(Failed):
            net.make(0)
        with self.assertRaises(TooMany):
            net.make(1)

    def test_what_was_sent_before_arrives_first(self):
        net = net_of(2, 2)
        net.tell(0, 0, read_graph("1"))
        with self.assertRaises(Failed):
            net.tell(0, 0, read_graph("2"))
        while not net.failed(1):
            net.deliver(0, 1)
        # Its own last word may be on its way; nothing else is sent.
        net.settle([])
        self.assertEqual(net.pending(), [])

    def test_a_failed_site_sends_nothing_more(self):
        chance = random.Random(1401)
        for _ in range(50):
            net = net_of(3, 3)
            for _ in range(60):
                if chance.randrange(3) and net.pending():
                    pair = chance.choice(net.pending())[:2]
                    before = {row[:2]: row[2] for row in net.pending()}
                    failed = [net.failed(site) for site in range(3)]
                    net.deliver(*pair)
                    before[pair] -= 1
                    for row in net.pending():
                        if failed[row[0]]:
                            self.assertLessEqual(row[2], before.get(row[:2], 0))
                else:
                    try:
                        net.tell(chance.randrange(3), chance.randrange(3),
                                 chance.choice([(("int", 1),), (("int", 2),), (("var", 1),)]))
                    except Failed:
                        pass
            net.settle([])
            self.assertEqual(len({net.failed(site) for site in range(3)}), 1)

    def test_messages_to_a_failed_site(self):
        net = net_of(2, 2)
        net.tell(1, 1, read_graph("5"))
        net.tell(0, 0, read_graph("1"))
        with self.assertRaises(Failed):
            net.tell(0, 0, read_graph("2"))
        net.deliver(1, 0)
        self.assertIs(net.failed(0), True)
        self.assertEqual([row for row in net.pending() if row[0] == 1], [])

    def test_no_room(self):
        """A site whose store is full fails, and the others when they get the word of it, or lack room, too."""
        net = net_of(2, 100)
        with self.assertRaises(Failed):
            for x in range(100):
                net.tell(0, x, shapes.row(399)[:-1] + (("int", x),))
        self.assertEqual((net.failed(0), net.failed(1)), (True, False))
        net.settle([])
        self.assertIs(net.failed(1), True)

    def test_a_tree_that_is_too_large(self):
        net = net_of(2, 3)
        net.tell(0, 0, shapes.row(400))
        net.tell(0, 1, (("tuple", "h", (1,)), ("var", 0)))
        self.assertEqual(len(net.value(0, 0)), 400)
        with self.assertRaises(TooMany):
            net.value(0, 1)
        net.settle([])
        with self.assertRaises(TooMany):
            net.value(1, 1)
        self.assertIs(net.failed(1), False)


class Orders(unittest.TestCase):

    def endings(self, net):
        """What all sites say behind all orders of deliveries."""
        found, todo, met = {}, [(net, ((),) * len(self.sites))], {}
        while todo:
            one, arrived = todo.pop()
            if not one.pending():
                answer = tuple("failed" if one.failed(site) else tuple(
                    says(one, site, x) if one.knows(site, x) else None for x in self.shared) for site in self.sites)
                found[answer] = True
            for sender, receiver, _ in one.pending():
                # Where each site has got the same in the same order, all is the same.
                row = (*arrived[:receiver], arrived[receiver] + (sender,), *arrived[receiver + 1:])
                if row not in met:
                    met[row] = True
                    other = one.copy()
                    other.deliver(sender, receiver)
                    todo.append((other, row))
        return list(found)

    def all_orders(self, sites, shared, told, expected):
        """`told` has tuples of a site, a shared variable and a graph."""
        self.sites, self.shared = range(sites), range(shared)
        for order in itertools.permutations(told):
            net = net_of(sites, shared)
            for site, x, graph in order:
                if not net.failed(site):
                    try:
                        net.tell(site, x, graph)
                    except Failed:
                        pass
            self.assertEqual(self.endings(net), [expected])

    def test_two_sites(self):
        told = [(0, 0, (("tuple", "f", (1,)), ("var", 1))), (1, 0, (("tuple", "f", (1,)), ("var", 2))),
                (1, 2, (("int", 4),))]
        self.all_orders(2, 3, told, (("f(4)", "4", "4"),) * 2)

    def test_infinite_trees(self):
        told = [(0, 0, (("tuple", "f", (1,)), ("var", 1))), (1, 1, (("tuple", "f", (1,)), ("var", 0))),
                (0, 1, (("var", 2),))]
        self.all_orders(2, 3, told, (("0=f(@0)",) * 3,) * 2)

    def test_three_sites(self):
        told = [(0, 0, (("var", 1),)), (1, 1, (("var", 2),)), (2, 2, (("tuple", "g", (1, 2)), ("var", 0), ("int", 1)))]
        self.all_orders(3, 3, told, (("0=g(@0 1)",) * 3,) * 3)

    def test_contradictions(self):
        told = [(0, 0, (("tuple", "f", (1,)), ("var", 1))), (1, 1, (("int", 1),)),
                (1, 0, (("tuple", "f", (1,)), ("int", 2)))]
        self.all_orders(2, 2, told, ("failed", "failed"))
        told = [(0, 0, (("var", 1),)), (1, 0, (("int", 1),)), (2, 1, (("int", 2),))]
        self.all_orders(3, 2, told, ("failed",) * 3)

    def test_equations_in_between_deliveries(self):
        told = [(0, 0, (("tuple", "f", (1,)), ("var", 1))), (1, 0, (("var", 2),)),
                (0, 2, (("tuple", "f", (1,)), ("int", 3)))]
        chance = random.Random(1402)
        for _ in range(100):
            net = net_of(2, 3, False)
            order = list(told)
            chance.shuffle(order)
            for site, x, graph in order:
                net.tell(site, x, graph)
                for _ in range(chance.randrange(3)):
                    if net.pending():
                        net.deliver(*chance.choice(net.pending())[:2])
            net.settle([chance.randrange(9) for _ in range(5)])
            for site in (0, 1):
                for x, expected in enumerate(["f(3)", "3", "f(3)"]):
                    if net.knows(site, x):
                        self.assertEqual(says(net, site, x), expected)


class Drawn(unittest.TestCase):

    def graph(self, chance, shared):
        many = chance.randint(1, 4)
        nodes = []
        for _ in range(many):
            kind = chance.choice(["tuple", "tuple", "tuple", "var", "var", "int"])
            if kind == "tuple":
                nodes.append(("tuple", "f", tuple(chance.randrange(many) for _ in range(chance.choice([1, 2, 2])))))
            else:
                nodes.append((kind, chance.randrange(shared if kind == "var" else 2)))
        return tuple(nodes)

    def agreeing_graph(self, chance, trees, names, k):
        """A graph for node k of the trees, in which nodes may be shared variables that stand for them."""
        order, rows = [("node", k)], []
        while len(rows) < len(order):
            word, j = order[len(rows)]
            node = trees.nodes[j]
            there = [x for x, other in names.items() if other == j]
            if node[0] == "var" or (there and len(rows) and chance.randrange(2)):
                rows.append(("var", chance.choice(there)))
            elif node[0] == "tuple":
                places = []
                for part in node[2]:
                    if ("node", part) not in order:
                        order.append(("node", part))
                    places.append(order.index(("node", part)))
                rows.append(("tuple", node[1], tuple(places)))
            else:
                rows.append(node)
        return tuple(rows)

    def run_one(self, watched, chance, many, equation):
        for _ in range(many):
            if chance.randrange(3):
                watched.tell(chance.randrange(watched.sites), *equation())
            else:
                watched.deliver(chance)
        while watched.deliver(chance):
            pass
        watched.end()

    def test_any_equations(self):
        chance = random.Random(1403)
        ends = {}
        for _ in range(150):
            watched = Watched(self, chance.randint(1, 4), chance.randint(1, 6), chance.randrange(2) == 0)
            self.run_one(watched, chance, chance.randint(1, 12), lambda: (
                chance.randrange(watched.shared), self.graph(chance, watched.shared)))
            ends[watched.can_be] = ends.get(watched.can_be, 0) + 1
        self.assertGreater(min(ends[True], ends[False]), 20)

    def test_equations_that_agree(self):
        chance = random.Random(1404)
        for _ in range(60):
            trees = Trees(chance, chance.choice([3, 5, 8]))
            shared = chance.randint(8, 12)
            # Each node has a shared variable that stands for it.
            names = {x: x if x < len(trees.nodes) else chance.randrange(len(trees.nodes)) for x in range(shared)}
            watched = Watched(self, chance.randint(2, 4), shared, chance.randrange(2) == 0)

            def equation():
                x = chance.randrange(shared)
                if chance.randrange(3) == 0:
                    return x, (("var", chance.choice([y for y in names if names[y] == names[x]])),)
                return x, self.agreeing_graph(chance, trees, names, names[x])

            self.run_one(watched, chance, 25, equation)
            self.assertIs(watched.can_be, True)


class Bounds(unittest.TestCase):

    def test_300_equations(self):
        """And 100 variables, 4 sites, and graphs with 400 nodes together."""
        chance = random.Random(1405)
        for turn in range(4):
            net = net_of(4, 100, turn % 2 == 0)
            both = Together(100)
            nodes = 0
            for k in range(300):
                x, y = chance.randrange(100), chance.randrange(100)
                if turn < 2 and k % 3 == 0 and nodes + 2 + 300 - k <= 400:
                    graph = (("tuple", "f", (1, 1)), ("var", y))
                else:
                    graph = (("var", y),)
                nodes += len(graph)
                self.assertIs(both.tell(x, graph), True)
                net.tell(chance.randrange(4), x, graph)
                if turn == 3 and net.pending() and k % 5 == 0:
                    net.deliver(*chance.choice(net.pending())[:2])
            self.assertLessEqual(nodes, 400)
            self.assertLessEqual(net.settle([chance.randrange(99) for _ in range(200)]), 5000)
            for site in range(4):
                self.assertIs(net.failed(site), False)
                known = [x for x in range(100) if net.knows(site, x)]
                for x in known:
                    self.assertEqual(net.value(site, x), both.value(x, known))

    def test_chains(self):
        for reverse in (False, True):
            net = net_of(4, 100)
            links = [(k, k + 1) for k in range(99)]
            for k, (x, y) in enumerate(links[::-1] if reverse else links):
                net.tell(k % 4, x, (("tuple", "f", (1,)), ("var", y)))
            net.tell(2, 99, (("atom", "end"),))
            self.assertLessEqual(net.settle([3, 1, 4, 1, 5, 9, 2, 6] * 20), 5000)
            for site in range(4):
                self.assertEqual(says(net, site, 0), "f(" * 99 + "end" + ")" * 99)

    def test_one_large_graph(self):
        net = net_of(4, 100)
        net.tell(0, 0, shapes.circle(400))
        net.settle([])
        for site in range(4):
            self.assertEqual(net.value(site, 0), shapes.circle(400))

    def test_the_last_of_many_contradicts(self):
        for place in (0, 150, 299):
            net = net_of(4, 100)
            for k in range(300):
                site, x = k % 4, k % 100
                graph = (("int",
                          1 if k in (place, 298 - place if place == 150 else 7) else 0),) if x == 0 or k == place else (
                    ("var", (x * 7) % 100),)
                if not net.failed(site):
                    try:
                        net.tell(site, 0 if k == place else x, graph)
                    except Failed:
                        pass
            self.assertLessEqual(net.settle([2, 7, 1, 8]), 5000)
            self.assertEqual([net.failed(site) for site in range(4)], [True] * 4)


class Copies(unittest.TestCase):

    def asked(self, net):
        said = [[net.value(site, x) if net.knows(site, x) else None for x in range(4)]
                for site in range(3) if not net.failed(site)]
        return net.pending(), [net.failed(site) for site in range(3)], said

    def change(self, net, chance):
        kind = chance.randrange(5)
        try:
            if kind == 0:
                net.know(chance.randrange(3), chance.randrange(3))
            elif kind == 1:
                net.make(chance.randrange(3))
            elif kind == 2 and net.pending():
                net.deliver(*chance.choice(net.pending())[:2])
            else:
                net.tell(chance.randrange(3), chance.randrange(3), chance.choice([
                    (("int", 1),), (("var", 1),), (("tuple", "f", (1,)), ("var", 2)), (("int", 1),)]))
        except Failed:
            pass

    def test_both_ways(self):
        for seed in range(60):
            net = net_of(3, 3, False)
            chance = random.Random(seed)
            for _ in range(6):
                self.change(net, chance)
            copied = net.copy()
            self.assertIs(type(copied), Net)
            one, other = (net, copied) if seed % 2 else (copied, net)
            before = self.asked(other)
            self.assertEqual(self.asked(one), before)
            for _ in range(8):
                self.change(one, random.Random(seed + 7))
            one.settle([])
            self.assertEqual(self.asked(other), before)
            for _ in range(8):
                self.change(other, random.Random(seed + 7))
            other.settle([])
            self.assertEqual(self.asked(other), self.asked(one))

    def test_numbers_of_new_ones(self):
        net = net_of(1, 3)
        copied = net.copy()
        self.assertEqual([net.make(0), net.make(0), copied.make(0)], [3, 4, 3])


if __name__ == "__main__":
    unittest.main()
