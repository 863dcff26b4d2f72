import inspect
import sys
import unittest

from leatwork import graphs, texts
from leatwork.errors import BadText, TooMany
from tests import shapes

INTERFACE = [
    (graphs, "is_graph", ["value"]), (graphs, "least", ["graph"]), (graphs, "is_infinite", ["graph"]),
    (graphs, "compare", ["first", "second"]), (graphs, "cut", ["graph", "depth"]),
    (texts, "graph_text", ["graph"]), (texts, "read_graph", ["line"]),
]


def some_graphs():
    every = tuple(("tuple", f"t{k}", tuple((6 * k + j) % 400 for j in range(1, 7))) for k in range(400))
    deep = [shapes.row(400), shapes.circle(400), shapes.circle(400, "f"), every]
    return list(shapes.some_graphs(13, 40, 8)) + deep


def answer(function, *arguments):
    try:
        return function(*arguments)
    except (BadText, TooMany) as error:
        return error.__class__.__name__


def all_calls():
    calls = []
    rows = some_graphs()
    for graph, second in zip(rows, rows[1:] + rows[:1]):
        calls.append((graphs.is_graph, graph))
        calls.append((graphs.least, graph))
        calls.append((graphs.is_infinite, graph))
        calls.append((graphs.compare, graph, second))
        calls.extend((graphs.cut, graph, depth) for depth in range(7))
        calls.append((texts.graph_text, graph))
        calls.append((texts.read_graph, str(answer(texts.graph_text, graph))))
        calls.append((texts.read_graph, "f(" + str(answer(texts.graph_text, graph))))
    return calls


def is_plain(value):
    """Whether it is an integer, a string, True, False, or a tuple of such: nothing that can be modified."""
    if type(value) is tuple:
        return all(is_plain(part) for part in value)
    return type(value) in (int, str, bool)


class Calls(unittest.TestCase):

    def test_the_interface(self):
        for module, name, arguments in INTERFACE:
            with self.subTest(name):
                function = vars(module)[name]
                self.assertTrue(inspect.isfunction(function))
                self.assertEqual(function.__module__, module.__name__)
                self.assertEqual(list(inspect.signature(function).parameters), arguments)
        self.assertEqual(graphs.MOST_NODES, 400)

    def test_no_answer_depends_on_earlier_calls(self):
        calls = all_calls()
        there = [answer(*call) for call in calls]
        back = [answer(*call) for call in calls[::-1]]
        self.assertEqual(there, back[::-1])
        self.assertIn("TooMany", there)
        self.assertIn("BadText", there)

    def test_results_share_nothing_that_can_be_modified(self):
        for call in all_calls():
            self.assertTrue(is_plain(answer(*call)))

    def test_lists_in_a_value_stay_as_they_are(self):
        inner = ["tuple", "a", [0]]
        value = [inner, ("tuple", "a", inner)]
        self.assertIs(graphs.is_graph(value), False)
        self.assertIs(graphs.is_graph((("int", 1), ("tuple", "a", inner))), False)
        self.assertEqual(value, [["tuple", "a", [0]], ("tuple", "a", ["tuple", "a", [0]])])

    def test_deep_graphs_need_no_deep_recursion(self):
        calls = all_calls()
        plain = [answer(*call) for call in calls]
        limit = sys.getrecursionlimit()
        sys.setrecursionlimit(len(inspect.stack(0)) + 60)
        try:
            found = [answer(*call) for call in calls]
        finally:
            sys.setrecursionlimit(limit)
        self.assertTrue(found == plain)


if __name__ == "__main__":
    unittest.main()
