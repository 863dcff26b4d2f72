import unittest

from leatwork import graphs
from leatwork.graphs import is_graph

MOST = 10 ** 9

GOOD_NODES = [
    ("var", 0), ("var", 1), ("var", MOST),
    ("int", 0), ("int", -1), ("int", MOST), ("int", -MOST),
    ("atom", "a"), ("atom", "z"), ("atom", "a0"), ("atom", "z9az"), ("atom", "a" * 12), ("atom", "a" + "9" * 11),
    ("atom", "var"), ("atom", "cut"),
    ("name", "a", 0), ("name", "proc", MOST), ("name", "a" * 12, 5),
    ("tuple", "a", (0,)), ("tuple", "a" * 12, (0,)), ("tuple", "f", (0,) * 6), ("tuple", "f", (0, 0)),
]

BAD_NUMBERS = [True, False, None, "1", "", (), (1,), [], [1]]

BAD_ATOMS = [
    "", "a" * 13, "A", "aB", "9", "9a", "_a", "a_", "a b", " a", "a ", "a\n", "\n", "a-", "a.", "a(", "@", "a=",
    "\u00e4", "a\u00e9", "a\u0661", "a\u00b2", "\u00aa", "a\u00df", "\u0430",
    True, False, None, 1, ("a",), ["a"], (), [],
]

BAD_PARTS = [
    (), (0,) * 7, [0], [0, 0], [], None, 0, True, "0", "a",
    (1,), (-1,), (0, 1), (0, -1), (MOST,), (True,), (False,), (0, False), ((0,),), ([0],), ("0",), (None,),
]

BAD_NODES = (
    [("var", n) for n in BAD_NUMBERS + [-1, MOST + 1, -MOST, 10 ** 30]]
    + [("int", n) for n in BAD_NUMBERS + [-MOST - 1, MOST + 1, 10 ** 30, -10 ** 30]]
    + [("atom", a) for a in BAD_ATOMS]
    + [("name", a, 0) for a in BAD_ATOMS]
    + [("name", "a", n) for n in BAD_NUMBERS + [-1, MOST + 1, -10 ** 30]]
    + [("tuple", a, (0,)) for a in BAD_ATOMS]
    + [("tuple", "a", parts) for parts in BAD_PARTS]
    + [
        (), ("var",), ("int",), ("atom",), ("name",), ("tuple",),
        ("var", 0, 0), ("var", "a", 0), ("int", 0, 0), ("int", "a", 0), ("atom", "a", 0), ("atom", "a", "a"),
        ("atom", "a", (0,)), ("name", "a"), ("name", 0), ("name", "a", 0, 0), ("name", "a", (0,)), ("name", 0, "a"),
        ("tuple", "a"), ("tuple", (0,)), ("tuple", "a", (0,), 0), ("tuple", "a", 0), ("tuple", (0,), "a"),
        ["var", 0], ["int", 0], ["atom", "a"], ["name", "a", 0], ["tuple", "a", (0,)],
        ("Var", 0), ("", 0), ("number", 0), ("string", "a"), ("cut", "a", (0,)), ("list", "a", (0,)),
        (None, 0), (True, 0), (0, 0), (("var",), 0), (["var"], 0), ([], "a", (0,)), (None, "a", (0,)), (0, "a", 0),
        None, True, False, 0, 1, "", "a", "var", "va", "abc", [], ((("var", 0),),),
    ])


class IsGraph(unittest.TestCase):

    def test_most_nodes(self):
        self.assertEqual(graphs.MOST_NODES, 400)

    def test_good_nodes(self):
        for node in GOOD_NODES:
            with self.subTest(node=node):
                self.assertIs(is_graph((node,)), True)

    def test_bad_nodes(self):
        for node in BAD_NODES:
            with self.subTest(node=node):
                self.assertIs(is_graph((node,)), False)

    def test_one_bad_node_among_good_ones(self):
        for node in [("atom", "A"), ("int", True), ("tuple", "f", (3,)), None]:
            for at in range(3):
                nodes = [("tuple", "f", (0, 1)), ("int", 1), ("name", "a", 1)]
                self.assertIs(is_graph(tuple(nodes)), True)
                nodes[at] = node
                with self.subTest(node=node, at=at):
                    self.assertIs(is_graph(tuple(nodes)), False)

    def test_nodes_to_which_the_root_does_not_lead(self):
        self.assertIs(is_graph((("int", 1), ("tuple", "f", (1, 0)))), True)
        self.assertIs(is_graph((("int", 1), ("tuple", "f", (2,)))), False)

    def test_values_that_are_no_tuple_of_nodes(self):
        node = ("int", 1)
        for value in [None, True, False, 0, 1, "", "a", "var", [], [node], [[node]], (), ((),), ([],), node,
                      ("var", "int"), ("atom", "a"), (node, None), (node, [node]), ((node,),)]:
            with self.subTest(value=value):
                self.assertIs(is_graph(value), False)

    def test_indices_of_parts_up_to_the_last_node(self):
        for many in (1, 2, 399, 400):
            rest = (("int", 0),) * (many - 1)
            self.assertIs(is_graph((("tuple", "f", (many - 1,)),) + rest), True)
            self.assertIs(is_graph((("tuple", "f", (many,)),) + rest), False)
            self.assertIs(is_graph((("tuple", "f", (0, -1)),) + rest), False)
            self.assertIs(is_graph((("tuple", "f", (-many,)),) + rest), False)

    def test_numbers_of_nodes(self):
        node = ("int", 1)
        for many in (1, 2, 6, 7, 399, 400):
            self.assertIs(is_graph((node,) * many), True)
        for many in (0, 401, 402, 1000):
            self.assertIs(is_graph((node,) * many), False)

    def test_numbers_of_parts(self):
        for many in range(9):
            self.assertIs(is_graph((("tuple", "f", (0,) * many),)), 1 <= many <= 6)

    def test_lengths_of_atoms(self):
        for many in range(15):
            for node in [("atom", "b" * many), ("name", "b" * many, 1), ("tuple", "b" * many, (0,))]:
                self.assertIs(is_graph((node,)), 1 <= many <= 12)

    def test_each_sign_of_an_atom(self):
        for code in range(256):
            sign = chr(code)
            letter = "a" <= sign <= "z"
            self.assertIs(is_graph((("atom", sign),)), letter)
            self.assertIs(is_graph((("atom", "a" + sign),)), letter or "0" <= sign <= "9")


if __name__ == "__main__":
    unittest.main()
