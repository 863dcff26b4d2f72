import unittest

from leatwork.graphs import is_graph, is_infinite, least
from tests import naive, shapes

X = ("tuple", "f", (0,))


class Least(unittest.TestCase):

    def check(self, graph, expected):
        self.assertEqual(least(graph), expected)
        self.assertEqual(least(expected), expected)

    def test_one_node(self):
        for node in [("var", 7), ("int", -3), ("atom", "a"), ("name", "a", 2), X]:
            self.check((node,), (node,))

    def test_parts_each_with_all_that_it_leads_to_before_the_next_one(self):
        graph = (("tuple", "f", (1, 2)), ("tuple", "g", (3,)), ("atom", "b"), ("tuple", "h", (4,)), ("atom", "a"))
        self.check(graph, (
            ("tuple", "f", (1, 4)), ("tuple", "g", (2,)), ("tuple", "h", (3,)), ("atom", "a"), ("atom", "b")))

    def test_a_part_that_is_met_deeper_first(self):
        graph = (("tuple", "f", (1, 2)), ("tuple", "g", (3, 2)), ("atom", "b"), ("atom", "a"))
        self.check(graph, (("tuple", "f", (1, 3)), ("tuple", "g", (2, 3)), ("atom", "a"), ("atom", "b")))
        graph = (("tuple", "f", (1, 2)), ("atom", "b"), ("tuple", "g", (3, 1)), ("atom", "a"))
        self.check(graph, (("tuple", "f", (1, 2)), ("atom", "b"), ("tuple", "g", (3, 1)), ("atom", "a")))

    def test_a_part_from_left_to_right_also_if_it_is_there_twice(self):
        graph = (("tuple", "f", (3, 1, 3, 2)), ("int", 1), ("int", 2), ("int", 3))
        self.check(graph, (("tuple", "f", (1, 2, 1, 3)), ("int", 3), ("int", 1), ("int", 2)))

    def test_nodes_for_the_same_tree_are_one(self):
        leaves = [("var", 1), ("int", 1), ("atom", "a"), ("name", "a", 1)]
        for leaf in leaves:
            self.check((("tuple", "f", (1, 2)), leaf, leaf), (("tuple", "f", (1, 1)), leaf))
        graph = (("tuple", "f", (1, 2)), ("tuple", "g", (3,)), ("tuple", "g", (4,)), ("int", 1), ("int", 1))
        self.check(graph, (("tuple", "f", (1, 1)), ("tuple", "g", (2,)), ("int", 1)))

    def test_nodes_that_differ_stay_apart(self):
        leaves = (
            ("var", 1), ("int", 1), ("atom", "a"), ("name", "a", 1), ("var", 2), ("int", 2), ("int", -1),
            ("atom", "b"), ("name", "b", 1), ("name", "a", 2), ("tuple", "a", (1,)), ("tuple", "b", (1,)),
            ("tuple", "a", (1, 1)), ("tuple", "a", (2,)), ("tuple", "a", (1, 2)), ("tuple", "a", (2, 1)))
        for one in leaves:
            for other in leaves:
                graph = (("tuple", "r", (3, 4)), ("int", 5), ("int", 6), one, other)
                found = least(graph)
                with self.subTest(one=one, other=other):
                    self.assertEqual(found[0][2][0] == found[0][2][1], one == other)

    def test_nodes_to_which_the_root_does_not_lead(self):
        self.check((("int", 1), ("int", 2), X), (("int", 1),))
        self.check((("tuple", "f", (3,)), ("tuple", "g", (0, 2)), ("atom", "b"), ("int", 1)),
                   (("tuple", "f", (1,)), ("int", 1)))

    def test_infinite_trees(self):
        self.check((X,), (X,))
        self.check(tuple(("tuple", "f", ((k + 1) % 6,)) for k in range(6)), (X,))
        self.check((("tuple", "f", (1,)), ("tuple", "f", (1,))), (X,))
        two = (("tuple", "f", (1,)), ("tuple", "g", (0,)))
        self.check(two, two)
        self.check(tuple(("tuple", "fg"[k % 2], ((k + 1) % 6,)) for k in range(6)), two)
        # g(x) above x = f(g(x)) is the same tree as the g(x) inside of x
        self.check((("tuple", "g", (1,)), ("tuple", "f", (2,)), ("tuple", "g", (1,))),
                   (("tuple", "g", (1,)), ("tuple", "f", (0,))))

    def test_equal_exactly_if_they_stand_for_the_same_tree(self):
        rows = list(shapes.some_graphs(1, 60, 4))
        for first in rows:
            for second in rows:
                self.assertEqual(least(first) == least(second), naive.compare(first, second) == 0)

    def test_some_graphs(self):
        for graph in shapes.some_graphs(2, 3000, 12):
            self.check(graph, naive.least(graph))
            self.assertTrue(is_graph(least(graph)))

    def test_some_larger_graphs(self):
        for graph in shapes.some_graphs(3, 40, 150):
            self.check(graph, naive.least(graph))
            self.assertEqual(least(shapes.shuffled(graph, 4)), least(graph))

    def test_a_row_of_the_most_nodes(self):
        row = shapes.row(400)
        self.check(row, row)
        self.check(shapes.shuffled(row, 1), row)
        self.check(shapes.row(399)[:-1] + (("tuple", "f", (399,)), ("tuple", "f", (398,))), (X,))

    def test_a_circle_of_the_most_nodes(self):
        circle = shapes.circle(400)
        self.check(circle, circle)
        self.check(shapes.shuffled(circle, 1), circle)
        self.check(shapes.circle(400, "f"), (X,))
        half = tuple(("tuple", "g" if k % 200 == 0 else "f", ((k + 1) % 400,)) for k in range(400))
        self.check(half, shapes.circle(200))

    def test_shared_parts(self):
        row = tuple(("tuple", "f", (k + 1, k + 1)) for k in range(399)) + (("int", 1),)
        self.check(row, row)
        twice = tuple(("tuple", "f", (k + 2, k + 3 - 2 * (k % 2))) for k in range(398)) + (("int", 1), ("int", 1))
        self.check(twice, naive.least(twice))


class IsInfinite(unittest.TestCase):

    def test_finite(self):
        for graph in [(("var", 0),), (("int", 0),), (("atom", "a"),), (("name", "a", 0),), shapes.row(2),
                      (("tuple", "f", (1, 1)), ("tuple", "g", (2, 2)), ("int", 1)),
                      (("tuple", "f", (1, 2)), ("tuple", "g", (2, 2)), ("int", 1)),
                      (("tuple", "f", (2, 1)), ("tuple", "g", (2, 2)), ("int", 1))]:
            with self.subTest(graph=graph):
                self.assertIs(is_infinite(graph), False)

    def test_infinite(self):
        for graph in [(X,), (("tuple", "f", (1, 0)), ("int", 1)),
                      (("tuple", "f", (1, 2)), ("int", 1), ("tuple", "g", (2,))),
                      (("tuple", "f", (1,)), ("tuple", "f", (2,)), ("tuple", "f", (1,)))]:
            with self.subTest(graph=graph):
                self.assertIs(is_infinite(graph), True)

    def test_only_what_the_root_leads_to_matters(self):
        self.assertIs(is_infinite((("int", 1), ("tuple", "f", (1,)))), False)
        self.assertIs(is_infinite((("tuple", "f", (1,)), ("int", 1), ("tuple", "f", (2,)))), False)
        self.assertIs(is_infinite((("tuple", "f", (1,)), ("int", 1), ("tuple", "f", (0, 2)))), False)

    def test_some_graphs(self):
        for graph in shapes.some_graphs(5, 3000, 10):
            self.assertIs(is_infinite(graph), naive.is_infinite(graph))

    def test_deep(self):
        self.assertIs(is_infinite(shapes.row(400)), False)
        self.assertIs(is_infinite(shapes.row(400)[:-1] + (("tuple", "f", (399,)),)), True)
        self.assertIs(is_infinite(shapes.circle(400)), True)
        self.assertIs(is_infinite(tuple(("tuple", "f", (k + 1,) * 6) for k in range(399)) + (("int", 1),)), False)


if __name__ == "__main__":
    unittest.main()
