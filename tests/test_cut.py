import unittest

from leatwork.errors import TooMany
from leatwork.graphs import cut, is_graph, least
from tests import naive, shapes

CUT = ("atom", "cut")


class Cut(unittest.TestCase):

    def test_the_root_is_at_0(self):
        self.assertEqual(cut((("tuple", "f", (1,)), ("int", 1)), 0), (CUT,))
        self.assertEqual(cut((("tuple", "f", (0,)),), 0), (CUT,))

    def test_only_tuples_are_replaced(self):
        for node in [("var", 1), ("int", 1), ("atom", "a"), ("name", "a", 1)]:
            for depth in range(7):
                self.assertEqual(cut((node,), depth), (node,))
                self.assertEqual(cut((("tuple", "f", (1,)), node), depth + 1), (("tuple", "f", (1,)), node))

    def test_depth_1(self):
        graph = (("tuple", "f", (1, 2)), ("tuple", "g", (2,)), ("int", 1))
        self.assertEqual(cut(graph, 1), (("tuple", "f", (1, 2)), CUT, ("int", 1)))
        self.assertEqual(cut(graph, 2), graph)

    def test_what_is_cut_off_becomes_the_same(self):
        graph = (("tuple", "f", (1, 2)), ("tuple", "g", (3,)), ("tuple", "h", (1,)), ("int", 1))
        self.assertEqual(cut(graph, 1), (("tuple", "f", (1, 1)), CUT))
        self.assertEqual(cut(graph, 2), (
            ("tuple", "f", (1, 3)), ("tuple", "g", (2,)), ("int", 1), ("tuple", "h", (4,)), CUT))
        self.assertEqual(cut((("tuple", "f", (1, 2)), CUT, ("tuple", "cut", (1,))), 1), (("tuple", "f", (1, 1)), CUT))

    def test_a_row_and_circles(self):
        for depth in range(7):
            expected = tuple(("tuple", "f", (k + 1,)) for k in range(depth)) + (CUT,)
            self.assertEqual(cut((("tuple", "f", (0,)),), depth), expected)
            self.assertEqual(cut(shapes.circle(400, "f"), depth), expected)
            self.assertEqual(cut(shapes.row(400), depth), expected)
            self.assertEqual(cut(shapes.circle(3), depth), naive.cut(shapes.circle(3), depth))
        self.assertEqual(cut(shapes.row(7), 6), shapes.row(7))
        self.assertEqual(cut(shapes.row(8), 6), shapes.row(8)[:6] + (CUT,))

    def test_a_tuple_at_several_depths(self):
        graph = (("tuple", "f", (0, 1)), ("tuple", "g", (0,)))
        self.assertEqual(cut(graph, 2), (
            ("tuple", "f", (1, 3)), ("tuple", "f", (2, 2)), CUT, ("tuple", "g", (2,))))

    def test_nodes_to_which_the_root_does_not_lead(self):
        self.assertEqual(cut((("int", 1), ("tuple", "f", (1,))), 3), (("int", 1),))

    def test_some_graphs(self):
        for graph in shapes.some_graphs(6, 700, 8):
            for depth in range(7):
                found = cut(graph, depth)
                self.assertEqual(found, naive.cut(graph, depth))
                self.assertTrue(is_graph(found))

    def test_depths_somewhat_beyond_raise_no_error(self):
        endless = (("tuple", "f", (0,)),)
        for depth in (7, 8, 20):
            self.assertEqual(cut(endless, depth), shapes.row(depth + 1, "cut"))
            self.assertEqual(cut(shapes.row(5), depth), shapes.row(5))
        for depth in (-1, -2):
            self.assertEqual(cut(endless, depth), endless)
            self.assertEqual(cut(shapes.row(5), depth), shapes.row(5))

    def test_as_many_nodes_as_a_graph_has_at_most(self):
        graph = shapes.fan(138)
        self.assertTrue(is_graph(graph))
        self.assertEqual(len(least(graph)), 398)
        found = cut(graph, 6)
        self.assertEqual(len(found), 400)
        self.assertEqual(found, naive.cut(graph, 6))

    def test_one_node_too_many(self):
        graph = shapes.fan(139)
        self.assertTrue(is_graph(graph))
        with self.assertRaises(TooMany):
            cut(graph, 6)
        self.assertEqual(len(cut(graph, 5)), 400)
        self.assertEqual(len(cut(graph, 4)), 259 + 139 + 1)
        self.assertEqual(len(cut(graph, 3)), 43 + 1)

    def test_far_too_many(self):
        graph = tuple(("tuple", f"t{k}", tuple((6 * k + j) % 400 for j in range(1, 7))) for k in range(400))
        self.assertEqual(len(cut(graph, 3)), 1 + 6 + 36 + 1)
        self.assertEqual(len(cut(graph, 4)), 1 + 6 + 36 + 216 + 1)
        for depth in (5, 6):
            with self.assertRaises(TooMany):
                cut(graph, depth)


if __name__ == "__main__":
    unittest.main()
