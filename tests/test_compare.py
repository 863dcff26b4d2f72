import unittest

from leatwork.graphs import compare, least
from tests import naive, shapes

# Each of these comes before the next one.
RISING = [
    (("var", 0),), (("var", 2),), (("var", 10),), (("var", 10 ** 9),),
    (("int", -10 ** 9),), (("int", -2),), (("int", -1),), (("int", 0),), (("int", 2),), (("int", 10),),
    (("int", 10 ** 9),),
    (("atom", "a"),), (("atom", "a0"),), (("atom", "a10"),), (("atom", "a2"),), (("atom", "aa"),), (("atom", "b"),),
    (("atom", "zzz"),),
    (("tuple", "a", (1,)), ("var", 5)), (("tuple", "a", (1,)), ("int", -5)), (("tuple", "a", (1,)), ("atom", "a")),
    (("tuple", "a", (0,)),), (("tuple", "a", (1,)), ("name", "a", 0)),
    (("tuple", "aa", (1,)), ("int", 1)), (("tuple", "z", (1,)), ("int", 0)),
    (("tuple", "a", (1, 2)), ("int", 5), ("int", 6)), (("tuple", "a", (1, 2)), ("int", 6), ("int", 5)),
    (("tuple", "b", (1, 1)), ("int", 0)), (("tuple", "z", (0, 0)),),
    (("tuple", "a", (1,) * 6), ("int", 0)), (("tuple", "b", (1,) * 6), ("int", 0)),
    (("name", "a", 0),), (("name", "a", 2),), (("name", "a", 10),), (("name", "a", 10 ** 9),), (("name", "aa", 1),),
    (("name", "b", 0),),
]


def graph(text):
    """Reads a finite tree like f(a g(b)), without the program."""
    words = text.replace("(", " ( ").replace(")", " ) ").split()
    nodes = []

    def take():
        word = words.pop(0)
        k = len(nodes)
        nodes.append(("atom", word))
        if words and words[0] == "(":
            words.pop(0)
            parts = []
            while words[0] != ")":
                parts.append(take())
            words.pop(0)
            nodes[k] = ("tuple", word, tuple(parts))
        return k

    take()
    return tuple(nodes)


class Compare(unittest.TestCase):

    def check(self, first, second, expected):
        found = compare(first, second)
        self.assertIs(type(found), int)
        self.assertEqual(found, expected)
        self.assertEqual(compare(second, first), -expected)

    def test_kinds_numbers_atoms_labels_and_numbers_of_parts(self):
        for j, first in enumerate(RISING):
            for k, second in enumerate(RISING):
                with self.subTest(first=first, second=second):
                    self.check(first, second, (j > k) - (j < k))

    def test_level_by_level(self):
        self.check(graph("f(g(b) a)"), graph("f(g(a) b)"), -1)
        self.check(graph("f(g(h(b)) h(a))"), graph("f(g(h(a)) h(b))"), -1)
        self.check(graph("f(a g(h(a)))"), graph("f(g(h(a)) a)"), -1)

    def test_in_a_level_from_left_to_right(self):
        self.check(graph("f(a b)"), graph("f(b a)"), -1)
        self.check(graph("f(g(a b) g(d c))"), graph("f(g(a c) g(a a))"), -1)
        self.check(graph("f(g(a d) g(a c))"), graph("f(g(a d) g(b a))"), -1)
        self.check(graph("f(g(a b) g(a a))"), graph("f(g(a a) g(b b))"), 1)

    def test_the_tuple_with_fewer_parts_although_its_label_is_greater(self):
        self.check(graph("z(z)"), graph("a(a a)"), -1)
        self.check(graph("f(z(z) b)"), graph("f(a(a a) a)"), -1)

    def test_the_nodes_of_a_pair_come_before_their_parts(self):
        self.check(graph("f(c)"), graph("g(a)"), -1)
        self.check(graph("r(f(c))"), graph("r(g(a))"), -1)

    def test_infinite_trees(self):
        endless = (("tuple", "f", (0,)),)
        self.check(endless, graph("f(f(f(f(a))))"), 1)
        self.check(endless, (("tuple", "f", (1,)), ("tuple", "g", (0,))), -1)
        self.check(endless, (("tuple", "f", (1,)), ("name", "a", 0)), -1)
        self.check((("tuple", "f", (0, 1)), ("int", 1)), (("tuple", "f", (0, 1)), ("int", 2)), -1)

    def test_different_graphs_of_the_same_tree(self):
        endless = (("tuple", "f", (0,)),)
        for many in (1, 2, 3, 7):
            for other in (1, 2, 5):
                self.check(shapes.circle(many, "f"), shapes.circle(other, "f"), 0)
        self.check(endless, (("tuple", "f", (1,)), ("tuple", "f", (1,)), ("int", 1)), 0)
        self.check(graph("f(a g(a))"), (("tuple", "f", (1, 2)), ("atom", "a"), ("tuple", "g", (1,))), 0)

    def test_some_graphs(self):
        rows = list(shapes.some_graphs(7, 150, 4))
        for first in rows:
            for second in rows:
                self.check(first, second, naive.compare(first, second))

    def test_some_graphs_that_are_much_alike(self):
        for one in shapes.some_graphs(8, 600, 5):
            for k in range(len(one)):
                second = one[:k] + (("atom", "g"),) + one[k + 1:]
                self.check(one, second, naive.compare(one, second))

    def test_0_exactly_for_equal_least_graphs(self):
        rows = list(shapes.some_graphs(9, 100, 6))
        for first in rows:
            for second in rows:
                self.assertEqual(compare(first, second) == 0, least(first) == least(second))

    def test_deep(self):
        row, other = shapes.row(400), shapes.row(400, "b")
        self.check(row, row, 0)
        self.check(row, shapes.shuffled(row, 1), 0)
        self.check(row, other, -1)
        self.check(row, shapes.row(399), 1)
        circle = shapes.circle(400)
        self.check(circle, shapes.shuffled(circle, 2), 0)
        self.check(circle, shapes.circle(399), -1)
        self.check(shapes.circle(400, "f"), shapes.circle(399, "f"), 0)
        self.check(shapes.circle(400, "f"), row, 1)

    def test_wide(self):
        first = tuple(("tuple", "f", ((k + 1) % 400, (7 * k + 3) % 400)) for k in range(400))
        second = tuple(("tuple", "f", ((k + 1) % 399, (3 * k + 1) % 399)) for k in range(399))
        self.check(first, second, 0)
        shared = tuple(("tuple", "f", (k + 1,) * 6) for k in range(399))
        self.check(shared + (("int", 1),), shared + (("int", 2),), -1)


if __name__ == "__main__":
    unittest.main()
