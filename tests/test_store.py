import itertools
import random
import unittest

from leatwork.errors import Failed, TooMany
from leatwork.graphs import least
from leatwork.store import MOST_STORE, Store
from tests import naive, shapes
from tests.naive_store import CannotBe, NaiveStore


def both(make):
    """Makes the same nodes in a store and in a plain one."""
    store, plain = Store(), NaiveStore()
    for node in make:
        assert put(store, node) == plain.make(*node)
    return store, plain


def put(store, node):
    if node[0] == "var":
        return store.variable()
    if node[0] == "int":
        return store.integer(node[1])
    if node[0] == "atom":
        return store.atom(node[1])
    if node[0] == "name":
        return store.name(node[1], node[2])
    return store.tuple_of(node[1], list(node[2]))


def seen(store):
    """All that a store says of its nodes."""
    nodes = range(store.size())
    return [(store.representative(k), store.value(k), answer(store.graph, k)) for k in nodes]


def answer(function, *arguments):
    try:
        return function(*arguments)
    except (Failed, TooMany) as error:
        return error.__class__.__name__


def full(many):
    store = Store()
    for _ in range(many):
        store.variable()
    return store


def some_nodes(chance, many):
    nodes = []
    for k in range(many):
        kind = chance.choice(["var"] * 4 + ["tuple"] * 4 * (k > 0) + ["int", "atom", "name"])
        if kind == "tuple":
            nodes.append(("tuple", chance.choice("ff" "g"), tuple(
                chance.randrange(k) for _ in range(chance.choice([1, 2, 2])))))
        elif kind == "name":
            nodes.append(("name", "a", chance.randrange(2)))
        else:
            nodes.append({"var": ("var",), "int": ("int", chance.randrange(2)), "atom": ("atom", "a")}[kind])
    return nodes


class Nodes(unittest.TestCase):

    def test_numbers_in_the_order_in_which_they_are_made(self):
        store = Store()
        self.assertEqual(store.size(), 0)
        self.assertEqual(store.variable(), 0)
        self.assertEqual(store.integer(-10 ** 9), 1)
        self.assertEqual(store.atom("abc"), 2)
        self.assertEqual(store.name("cell", 7), 3)
        self.assertEqual(store.tuple_of("f", [0, 3, 0]), 4)
        self.assertEqual(store.variable(), 5)
        self.assertEqual(store.size(), 6)
        self.assertEqual([store.value(k) for k in range(6)], [
            ("var", 0), ("int", -10 ** 9), ("atom", "abc"), ("name", "cell", 7), ("tuple", "f", (0, 3, 0)),
            ("var", 5)])
        self.assertEqual([store.representative(k) for k in range(6)], [0, 1, 2, 3, 4, 5])

    def test_one_and_six_parts(self):
        store = Store()
        x = store.variable()
        self.assertEqual(store.value(store.tuple_of("f", [x])), ("tuple", "f", (0,)))
        self.assertEqual(store.value(store.tuple_of("f", [x] * 6)), ("tuple", "f", (0,) * 6))

    def test_numbers_at_the_bounds_and_somewhat_beyond_raise_nothing(self):
        for n in (-10 ** 9 - 1, -10 ** 9, 0, 10 ** 9, 10 ** 9 + 1):
            store = Store()
            self.assertEqual(store.value(store.integer(n)), ("int", n))

    def test_nodes_of_one_value_are_different_nodes(self):
        store = Store()
        self.assertNotEqual(store.integer(1), store.integer(1))
        self.assertEqual(store.representative(1), 1)
        self.assertEqual(store.would_unify(0, 1), "yes")
        self.assertEqual(store.unify(0, 1), [])
        self.assertEqual(store.representative(1), 0)

    def test_a_list_of_parts_stays_as_it_is_and_is_not_kept(self):
        store = Store()
        parts = [store.variable(), store.variable()]
        k = store.tuple_of("f", parts)
        self.assertEqual(parts, [0, 1])
        parts[0] = 1
        self.assertEqual(store.value(k), ("tuple", "f", (0, 1)))

    def test_room(self):
        self.assertEqual(MOST_STORE, 2000)
        makers = [("variable", []), ("integer", [1]), ("atom", ["a"]), ("name", ["a", 1]), ("tuple_of", ["f", [0]]),
                  ("add", [(("atom", "a"),)])]
        for name, arguments in makers:
            with self.subTest(name):
                store = full(1999)
                self.assertEqual(getattr(store, name)(*arguments), 1999)
                self.assertEqual(store.size(), 2000)
                with self.assertRaises(TooMany):
                    getattr(store, name)(*arguments)
                self.assertEqual(store.size(), 2000)
                self.assertEqual(store.unify(0, 1998), [1998])


class Add(unittest.TestCase):

    def test_the_nodes_of_the_least_graph_in_order(self):
        store = full(3)
        graph = (("tuple", "f", (3, 1, 2)), ("var", 9), ("int", 5), ("tuple", "g", (1, 4)), ("int", 5))
        self.assertEqual(store.add(graph), 3)
        self.assertEqual(store.size(), 7)
        self.assertEqual([store.value(k) for k in range(3, 7)], [
            ("tuple", "f", (4, 5, 6)), ("tuple", "g", (5, 6)), ("var", 5), ("int", 5)])

    def test_one_variable_for_each_one(self):
        store = Store()
        store.add((("tuple", "f", (1, 2, 3, 4)), ("var", 7), ("var", 8), ("var", 7), ("name", "a", 7)))
        self.assertEqual(store.value(0), ("tuple", "f", (1, 2, 1, 3)))
        self.assertEqual([store.value(1), store.value(2)], [("var", 1), ("var", 2)])
        store.add((("var", 7),))
        self.assertEqual(store.value(4), ("var", 4))

    def test_infinite(self):
        store = full(1)
        self.assertEqual(store.add((("tuple", "f", (1, 0)), ("tuple", "f", (0, 1)), ("int", 1))), 1)
        self.assertEqual(store.size(), 2)
        self.assertEqual(store.value(1), ("tuple", "f", (1, 1)))

    def test_no_room(self):
        graph = (("tuple", "f", (1, 1, 2)), ("int", 1), ("int", 1), ("int", 2))
        store = full(1998)
        self.assertEqual(store.add(graph), 1998)
        store = full(1999)
        with self.assertRaises(TooMany):
            store.add(graph)
        self.assertEqual(store.size(), 1999)
        self.assertEqual(store.add((("int", 1),)), 1999)

    def test_some_graphs(self):
        for graph in shapes.some_graphs(31, 300, 9):
            store = full(2)
            root = store.add(graph)
            expected = least(graph)
            self.assertEqual((root, store.size()), (2, 2 + len(expected)))
            numbers = {}
            for node in expected:
                if node[0] == "var":
                    numbers[node] = 2 + expected.index(node)
            self.assertEqual(store.graph(root), tuple(("var", numbers[n]) if n in numbers else n for n in expected))


class Unify(unittest.TestCase):

    def test_variables(self):
        store = full(6)
        self.assertEqual(store.unify(4, 2), [4])
        self.assertEqual(store.unify(3, 5), [5])
        self.assertEqual(store.unify(2, 4), [])
        self.assertEqual(store.unify(5, 4), [3])
        self.assertEqual([store.representative(k) for k in range(6)], [0, 1, 2, 2, 2, 2])
        self.assertEqual(store.value(5), ("var", 2))
        self.assertEqual(store.unify(1, 1), [])

    def test_the_representative_is_the_least_one_that_is_no_variable(self):
        store = full(2)
        for _ in range(3):
            store.integer(7)
        self.assertEqual(store.unify(1, 4), [1])
        self.assertEqual(store.representative(1), 4)
        self.assertEqual(store.unify(0, 3), [0])
        self.assertEqual(store.unify(0, 1), [])
        self.assertEqual([store.representative(k) for k in range(5)], [3, 3, 2, 3, 3])
        self.assertEqual(store.unify(4, 2), [])
        self.assertEqual([store.representative(k) for k in range(5)], [2, 2, 2, 2, 2])

    def test_parts(self):
        store = full(4)
        one, other = store.tuple_of("f", [0, 1]), store.tuple_of("f", [2, 3])
        self.assertEqual(store.unify(one, other), [2, 3])
        self.assertEqual(store.value(other), ("tuple", "f", (0, 1)))
        self.assertEqual(store.unify(3, store.atom("a")), [1])
        self.assertEqual(store.value(one), ("tuple", "f", (0, 6)))
        self.assertEqual(store.graph(other), (("tuple", "f", (1, 2)), ("var", 0), ("atom", "a")))

    def test_what_differs(self):
        makers = [
            ("int", 1), ("int", 2), ("atom", "a"), ("atom", "b"), ("name", "a", 1), ("name", "a", 2), ("name", "b", 1),
            ("tuple", "a", (0,)), ("tuple", "b", (0,)), ("tuple", "a", (0, 0))]
        for first, second in itertools.product(makers, makers):
            store = full(3)
            one, other = put(store, first), put(store, second)
            store.unify(1, one)
            with self.subTest(first=first, second=second):
                if first == second:
                    self.assertEqual(store.unify(1, other), [])
                    continue
                self.assertEqual(store.would_unify(other, 1), "no")
                before = seen(store)
                for a, b in [(one, other), (other, one), (1, other), (other, 1)]:
                    with self.assertRaises(Failed):
                        store.unify(a, b)
                    self.assertEqual(seen(store), before)

    def test_a_failure_behind_what_went_well_changes_nothing(self):
        store = full(6)
        one, two = store.integer(1), store.integer(2)
        first = store.tuple_of("f", [0, 1, 2, one])
        second = store.tuple_of("f", [3, 0, 4, two])
        store.unify(4, 5)
        before = seen(store)
        for a, b in [(first, second), (second, first)]:
            with self.assertRaises(Failed):
                store.unify(a, b)
            self.assertEqual(seen(store), before)
        # All goes on as if there had been no failure.
        self.assertEqual(store.unify(5, 1), [4])
        self.assertEqual(store.unify(3, 2), [3])
        self.assertEqual([store.representative(k) for k in range(6)], [0, 1, 2, 2, 1, 1])
        third = store.tuple_of("f", [5, 5, 5, one])
        self.assertEqual(store.unify(first, third), [1, 2])
        self.assertEqual([store.representative(k) for k in range(6)], [0, 0, 0, 0, 0, 0])

    def test_would_unify(self):
        store = full(2)
        a, b = store.atom("a"), store.atom("b")
        f, g = store.tuple_of("f", [0]), store.tuple_of("f", [1])
        h, same = store.tuple_of("f", [a]), store.tuple_of("f", [store.atom("a")])
        before = seen(store)
        for first, second, expected in [
                (0, 0, "yes"), (0, 1, "open"), (a, b, "no"), (0, a, "open"), (f, g, "open"), (f, f, "yes"),
                (h, same, "yes"), (f, h, "open"), (f, a, "no"), (f, 0, "open")]:
            with self.subTest(first=first, second=second):
                self.assertEqual(store.would_unify(first, second), expected)
                self.assertEqual(store.would_unify(second, first), expected)
        self.assertEqual(seen(store), before)
        store.unify(0, 1)
        self.assertEqual(store.would_unify(f, g), "yes")
        store.unify(0, b)
        self.assertEqual(store.would_unify(g, h), "no")

    def test_yes_also_if_something_else_is_open(self):
        store = full(3)
        one, other = store.tuple_of("f", [0, 1]), store.tuple_of("f", [0, 2])
        self.assertEqual(store.would_unify(one, other), "open")
        third = store.tuple_of("f", [0, 1])
        self.assertEqual(store.would_unify(one, third), "yes")

    def test_one_variable_for_two_values(self):
        store = full(1)
        one = store.tuple_of("f", [0, 0])
        other = store.tuple_of("f", [store.integer(1), store.integer(2)])
        self.assertEqual(store.would_unify(one, other), "no")
        with self.assertRaises(Failed):
            store.unify(one, other)
        self.assertEqual(store.value(0), ("var", 0))

    def test_results_are_new_lists(self):
        store = full(3)
        found = store.unify(0, 2)
        found.append(7)
        self.assertEqual(store.unify(0, 1), [1])

    def test_equations_in_every_order_and_with_either_side_first(self):
        nodes = [("var",)] * 4 + [("tuple", "f", (0, 1)), ("tuple", "f", (2, 2)), ("int", 1), ("int", 1),
                                  ("tuple", "f", (3, 7))]
        good = [(4, 5), (3, 0), (1, 6), (8, 5)]
        bad = good[:3] + [(0, 4)]
        for equations in (good, bad):
            found = []
            for order in itertools.permutations(equations):
                for sides in itertools.product([1, -1], repeat=len(order)):
                    store = both(nodes)[0]
                    try:
                        for pair, side in zip(order, sides):
                            store.unify(*pair[::side])
                        found.append([store.representative(k) for k in range(9)])
                    except Failed:
                        found.append("failed")
            self.assertTrue(all(one == found[0] for one in found))
            self.assertEqual(found[0] == "failed", equations == bad)


class Infinite(unittest.TestCase):

    def test_a_variable_in_itself(self):
        store = full(1)
        f = store.tuple_of("f", [0])
        self.assertEqual(store.would_unify(0, f), "open")
        self.assertEqual(store.unify(0, f), [0])
        self.assertEqual(store.value(0), ("tuple", "f", (1,)))
        self.assertEqual(store.graph(0), (("tuple", "f", (0,)),))

    def circle(self, store, labels):
        x = store.variable()
        node = x
        for label in labels[::-1]:
            node = store.tuple_of(label, [node])
        store.unify(x, node)
        return x

    def test_circles(self):
        store = Store()
        x = self.circle(store, "fgh")
        expected = (("tuple", "f", (1,)), ("tuple", "g", (2,)), ("tuple", "h", (0,)))
        self.assertEqual(store.graph(x), expected)
        y = store.tuple_of("p", [store.integer(1), x, store.tuple_of("q", [x, x])])
        self.assertEqual(store.graph(y), (
            ("tuple", "p", (1, 2, 5)), ("int", 1), ("tuple", "f", (3,)), ("tuple", "g", (4,)), ("tuple", "h", (2,)),
            ("tuple", "q", (2, 2))))
        z = store.variable()
        store.unify(z, store.tuple_of("r", [z, x, z]))
        self.assertEqual(store.graph(z), (
            ("tuple", "r", (0, 1, 0)), ("tuple", "f", (2,)), ("tuple", "g", (3,)), ("tuple", "h", (1,))))

    def test_the_same_tree_made_equal(self):
        store = Store()
        x, y, z = self.circle(store, "fg"), self.circle(store, "fgfgfg"), self.circle(store, "fgfgf")
        self.assertEqual(store.would_unify(x, y), "yes")
        self.assertNotEqual(store.representative(x), store.representative(y))
        self.assertEqual(store.graph(x), store.graph(y))
        self.assertEqual(store.unify(y, x), [])
        self.assertEqual(store.representative(x), store.representative(y))
        self.assertEqual(store.would_unify(x, z), "no")
        before = seen(store)
        with self.assertRaises(Failed):
            store.unify(z, y)
        self.assertEqual(seen(store), before)

    def test_only_what_has_to_be_equal(self):
        store = Store()
        x, y = self.circle(store, "f"), self.circle(store, "ff")
        w = store.tuple_of("f", [y])
        self.assertEqual(store.unify(x, y), [])
        # All of them stand for one tree, but w did not have to be equal to any.
        self.assertEqual(store.representative(w), w)
        self.assertEqual(len({store.representative(k) for k in range(w)}), 1)

    def test_long_circles(self):
        store = Store()
        x, y, z = self.circle(store, "f" * 660), self.circle(store, "f" * 661), self.circle(store, "f" * 600 + "g")
        self.assertEqual(store.would_unify(x, y), "yes")
        self.assertEqual(store.graph(x), (("tuple", "f", (0,)),))
        self.assertEqual(store.would_unify(x, z), "no")
        self.assertEqual(store.unify(x, y), [])
        self.assertEqual(len({store.representative(k) for k in range(660 + 661 + 2)}), 1)
        with self.assertRaises(Failed):
            store.unify(x, z)
        with self.assertRaises(TooMany):
            store.graph(z)


class Graph(unittest.TestCase):

    def test_variables_have_the_numbers_of_their_representatives(self):
        store = full(4)
        store.unify(3, 2)
        k = store.tuple_of("f", [3, 1, 2])
        self.assertEqual(store.graph(k), (("tuple", "f", (1, 2, 1)), ("var", 2), ("var", 1)))
        self.assertEqual(store.graph(3), (("var", 2),))

    def test_equal_trees_are_one_node(self):
        store = Store()
        a, b = store.integer(1), store.integer(1)
        k = store.tuple_of("f", [store.tuple_of("g", [a]), store.tuple_of("g", [b]), b])
        self.assertEqual(store.graph(k), (("tuple", "f", (1, 1, 2)), ("tuple", "g", (2,)), ("int", 1)))

    def test_the_most_nodes(self):
        for many in (398, 399):
            store = Store()
            node = store.variable()
            for _ in range(many):
                node = store.tuple_of("f", [node])
            expected = tuple(("tuple", "f", (k + 1,)) for k in range(many)) + (("var", 0),)
            self.assertEqual(store.graph(node), expected)
        node = store.tuple_of("f", [node])
        with self.assertRaises(TooMany):
            store.graph(node)
        # More nodes of the store, but not of the tree.
        store.unify(0, store.tuple_of("f", [0]))
        self.assertEqual(store.graph(node), (("tuple", "f", (0,)),))

    def test_many_nodes_for_one_tree(self):
        store = Store()
        node = store.integer(0)
        for _ in range(999):
            node = store.tuple_of("f", [node, node])
        with self.assertRaises(TooMany):
            store.graph(node)
        store = Store()
        leaves = [store.integer(k % 3) for k in range(600)]
        for _ in range(8):
            leaves = [store.tuple_of("t", leaves[k:k + 6]) for k in range(0, len(leaves), 6)]
        self.assertLessEqual(len(store.graph(leaves[0])), 400)

    def test_deep_rows(self):
        store = Store()
        ends = [store.variable(), store.variable()]
        tops = []
        for end in ends:
            node = end
            for _ in range(399):
                node = store.tuple_of("f", [node])
            tops.append(node)
        self.assertEqual(store.would_unify(*tops), "open")
        self.assertEqual(store.unify(*tops), [1])
        self.assertEqual(store.would_unify(*tops), "yes")
        self.assertEqual(store.representative(1), 0)
        self.assertEqual(store.graph(tops[0]), store.graph(tops[1]))
        one = store.integer(1)
        store.unify(1, one)
        self.assertEqual(store.graph(tops[1])[-1], ("int", 1))

    def test_a_deep_failure(self):
        store = Store()
        tops = []
        for n in (1, 2):
            node = store.integer(n)
            for _ in range(399):
                node = store.tuple_of("f", [store.variable(), node])
            tops.append(node)
        before = [store.representative(k) for k in range(store.size())]
        self.assertEqual(store.would_unify(*tops), "no")
        with self.assertRaises(Failed):
            store.unify(*tops)
        self.assertEqual([store.representative(k) for k in range(store.size())], before)


class Copies(unittest.TestCase):

    def test_both_ways(self):
        store = full(3)
        store.tuple_of("f", [0, 1])
        other = store.copy()
        self.assertEqual(seen(other), seen(store))
        self.assertEqual(store.unify(0, 1), [1])
        self.assertEqual(other.representative(1), 1)
        self.assertEqual(other.unify(1, 2), [2])
        self.assertEqual(other.atom("a"), 4)
        self.assertEqual(store.size(), 4)
        self.assertEqual(store.integer(9), 4)
        self.assertEqual((store.value(4), other.value(4)), (("int", 9), ("atom", "a")))
        self.assertEqual(store.representative(2), 2)
        with self.assertRaises(Failed):
            other.unify(3, 4)
        third = other.copy()
        third.unify(0, 1)
        self.assertEqual(other.representative(1), 1)

    def test_a_copy_has_the_same_room(self):
        other = full(2000).copy()
        with self.assertRaises(TooMany):
            other.variable()


class Drawn(unittest.TestCase):

    def test_against_the_plain_store(self):
        chance = random.Random(41)
        counts = {}
        for _ in range(250):
            store, plain = both(some_nodes(chance, chance.randint(2, 11)))
            for _ in range(6):
                a, b = chance.randrange(store.size()), chance.randrange(store.size())
                would = plain.would_unify(a, b)
                self.assertEqual(store.would_unify(a, b), would)
                counts[would] = counts.get(would, 0) + 1
                try:
                    expected = plain.unify(a, b)
                except CannotBe:
                    expected = "Failed"
                self.assertEqual(answer(store.unify, a, b), expected)
                self.assertEqual([store.representative(k) for k in range(store.size())], plain.representatives())
                self.assertEqual([store.value(k) for k in range(store.size())],
                                 [plain.value(k) for k in range(store.size())])
                self.assertEqual(store.graph(a), plain.graph(a))
        self.assertGreater(min(counts[word] for word in ("yes", "no", "open")), 100)

    def test_orders_of_equations(self):
        chance = random.Random(42)
        for _ in range(150):
            nodes = some_nodes(chance, 9)
            equations = [(chance.randrange(9), chance.randrange(9)) for _ in range(4)]
            found = []
            for _ in range(6):
                order = [pair[::chance.choice([1, -1])] for pair in chance.sample(equations, 4)]
                store = both(nodes)[0]
                answers = [answer(store.unify, *pair) for pair in order]
                found.append("Failed" if "Failed" in answers else [store.representative(k) for k in range(9)])
            self.assertTrue(all(one == found[0] for one in found), (nodes, equations))

    def test_graphs_of_added_ones_stay_the_same_tree(self):
        for graph in shapes.some_graphs(43, 100, 8):
            store = Store()
            a, b = store.add(graph), store.add(shapes.shuffled(graph, 5))
            bound = all(node[0] != "var" for node in naive.least(graph))
            self.assertEqual(store.would_unify(a, b), "yes" if bound else "open")
            store.unify(a, b)
            self.assertEqual(store.graph(a), store.graph(b))
            self.assertEqual(len(store.graph(a)), len(naive.least(graph)))


if __name__ == "__main__":
    unittest.main()
