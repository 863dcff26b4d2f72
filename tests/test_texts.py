import random
import unittest

from leatwork.errors import BadText, TooMany
from leatwork.graphs import is_graph, least
from leatwork.texts import graph_text, read_graph
from tests import naive, shapes

MOST = 10 ** 9

# Least graphs and their texts.
TEXTS = [
    ((("int", 0),), "0"), ((("int", 7),), "7"), ((("int", -7),), "-7"), ((("int", 10),), "10"),
    ((("int", MOST),), "1000000000"), ((("int", -MOST),), "-1000000000"), ((("int", 999999999),), "999999999"),
    ((("atom", "a"),), "a"), ((("atom", "z9"),), "z9"), ((("atom", "abcdefghi012"),), "abcdefghi012"),
    ((("var", 0),), "_0"), ((("var", 120),), "_120"), ((("var", MOST),), "_1000000000"),
    ((("name", "cell", 0),), "<cell 0>"), ((("name", "abcdefghi012", MOST),), "<abcdefghi012 1000000000>"),
    ((("tuple", "f", (1,)), ("int", 1)), "f(1)"),
    ((("tuple", "f", (1,)), ("name", "a", 1)), "f(<a 1>)"),
    ((("tuple", "abcdefghi012", (1, 1)), ("var", 1)), "abcdefghi012(_1 _1)"),
    ((("tuple", "f", (1, 2, 3, 4, 5, 6)), ("int", -1), ("atom", "a"), ("var", 3), ("name", "p", 4),
      ("tuple", "g", (1,)), ("tuple", "f", (2,))), "f(-1 a _3 <p 4> g(-1) f(a))"),
    ((("tuple", "f", (1, 1, 1)), ("tuple", "g", (2, 3)), ("atom", "g"), ("name", "g", 0)),
     "f(g(g <g 0>) g(g <g 0>) g(g <g 0>))"),
    # Infinite trees.
    ((("tuple", "f", (0,)),), "0=f(@0)"),
    ((("tuple", "f", (0, 0)),), "0=f(@0 @0)"),
    ((("tuple", "f", (1,)), ("tuple", "g", (0,))), "0=f(g(@0))"),
    ((("tuple", "f", (1,)), ("tuple", "g", (1,))), "f(1=g(@1))"),
    ((("tuple", "f", (1,)), ("tuple", "g", (1, 0))), "0=f(1=g(@1 @0))"),
    ((("tuple", "f", (1, 1)), ("tuple", "g", (1, 0))), "0=f(1=g(@1 @0) 1=g(@1 @0))"),
    # Each of both lies in the other one, and the one that is met first is the outer one.
    ((("tuple", "f", (1, 2)), ("tuple", "h", (2,)), ("tuple", "g", (1,))), "f(1=h(g(@1)) 2=g(h(@2)))"),
    ((("tuple", "f", (1, 3)), ("tuple", "g", (2, 1)), ("tuple", "h", (1,)), ("int", 5)),
     "f(1=g(h(@1) @1) 5)"),
    # Node 1 is met inside of itself at the first place, and not at the other one, inside of node 2.
    ((("tuple", "f", (1, 2)), ("tuple", "g", (0, 2)), ("tuple", "h", (1,))),
     "0=f(1=g(@0 h(@1)) 2=h(g(@0 @2)))"),
]

BAD_LINES = [
    "", " ", "\n", "(", ")", "()", "@", "=", "_", "<", ">", "<>", "-", "@0", "0=", "=f(1)", "0=0", "0=a", "0=@0",
    # around a tree
    " a", "a ", "a\n", "\na", "a b", "1 2", "f(a) ", " f(a)", "f(a)\n", "f(a)f(a)", "f(a) f(a)", "f(a)g", "f(a))",
    "a)", "a)b", "(a)", "f(a)(b)", "\ufefff(a)",
    # numbers
    "-0", "00", "01", "007", "-01", "-00", "+1", "--1", "- 1", "1-", "1.0", "1e3", "1_0", "0x1", "1000000001",
    "-1000000001", "9999999999", "10000000000", "9" * 30, "9" * 19000, "\u0661", "\u00b2", "1\u0661",
    "\uff11", "f(01)", "f(-0)", "f(1000000001)",
    # atoms
    "A", "aB", "1a", "a-b", "a_b", "abcdefghi0123", "\u00e4", "a.b", "a=b", "a@b", "a,b", "a\tb", "'a'", "\"a\"",
    "1a(b)", "A(b)", "abcdefghi0123(b)", "\u00aa", "a\u0661", "f(abcdefghi0123)",
    # variables
    "_ 1", "_01", "_00", "_-1", "_-0", "_a", "_1a", "__1", "_1000000001", "_9999999999", "_" + "9" * 30, "_+1", "_1(a)",
    "_\u0661",
    # names
    "<a>", "<a >", "< a 1>", "<a  1>", "<a 1 >", "<a 01>", "<a -1>", "<a -0>", "<a 1000000001>", "<a 1", "a 1>",
    "<A 1>", "<1 1>", "<abcdefghi0123 1>", "<a a>", "<a 1>>", "<<a 1>", "<<a 1>>", "<a 1)", "<a(1)>", "<a 1>(a)",
    "<a 1 2>", "<a\t1>", "< 1>", "f(<a)", "f(<a 1)", "f(a 1>)", "<a 1> <a 1>", "<a", "<a ", "<a 1x", "<f(a) 1>",
    # tuples
    "f(", "f()", "f( )", "f(a", "f(a ", "f( a)", "f(a )", "f(a  b)", "f(a b", "f(ab(", "f (a)", "f((a))", "f(a)(",
    "f(g(a)", "f(g(a) b", "f(g(a)b)", "f(a,b)", "f(a\tb)", "f(a\nb)", "f(a b c d e f g)", "f(g(a)))", "-f(a)",
    "f(a(b c)d)", "f(a b)c", "()f", "f)a(", "f(a b c d e f f())", "f[a]",
    # signs that are not due, or missing
    "0=f(a)", "f(0=g(a))", "f(@0)", "f(g(@0))", "f(1=g(a))", "0=f(g(a) @1)", "0=f(1=g(@0))", "1=f(@1)", "0=f(@1)",
    "00=f(@0)", "0=f(@00)", "-0=f(@-0)", "=f(@)", "a=f(@a)", "0==f(@0)", "0=f(@0=)", "0=f(=@0)", "0= f(@0)",
    "0 =f(@0)", "0=f(@ 0)", "0=f(0=@0)", "0=0=f(@0)", "0=f(@0)=", "0=f(@@0)", "0=f(@0()", "0=f(@0(a))", "@0=f(@0)",
    "+0=f(@+0)", "\u0660=f(@\u0660)", "f(0=g(@0))", "f(2=g(@2))", "f(1=g(@1) @1)", "f(1=g(@1) g(@1))",
    "f(1=g(@1) 2=g(@2))", "f(1=g(@1) 1=g(@2))", "f(g(@1) 1=g(@1))", "f(1=g(1=h(@1)))", "0=f(0=f(@0))",
    "0=f(0=g(@0))", "0=f(0=g(@0) @0)", "0=f(1=g(@1 @0) g(@1 @0))", "0=f(1=g(@1 @0) @1)", "0=f(f(@0))",
    "0=f(1=f(@1))", "0=f(1=f(@0))", "f(1=f(@1))", "f(f(f(3=f(@3))))", "f(0=f(@0))", "0=f(1=f(@0 @1) @0)",
    "f(2=h(g(@2)) 1=g(h(@1)))", "f(1=h(g(@1)) 2=g(1=h(@2)))", "0=f(g(@0) 1=g(@0))", "@0(a)", "_0=f(@0)", "<a 0=f(@0)>",
]


class Texts(unittest.TestCase):

    def check(self, graph, text):
        self.assertEqual(graph_text(graph), text)
        self.assertEqual(read_graph(text), least(graph))

    def check_bad(self, line):
        with self.assertRaises(BadText):
            read_graph(line)

    def test_texts(self):
        for graph, text in TEXTS:
            with self.subTest(text=text):
                self.check(graph, text)
                self.assertEqual(least(graph), graph)

    def test_bad_lines(self):
        for line in BAD_LINES:
            with self.subTest(line=line[:50]):
                self.check_bad(line)

    def test_numbers_at_and_beyond_their_bounds(self):
        for number in (MOST - 1, MOST):
            self.check((("int", number),), f"{number}")
            self.check((("int", -number),), f"-{number}")
            self.check((("var", number),), f"_{number}")
            self.check((("name", "a", number),), f"<a {number}>")
        for number in (MOST + 1, 10 ** 10 - 1, 10 ** 10, 10 ** 11, 10 ** 100):
            for line in (f"{number}", f"-{number}", f"_{number}", f"<a {number}>", f"f({number})"):
                self.check_bad(line)

    def test_lengths_of_atoms(self):
        for many in (1, 11, 12):
            word = "b" * many
            self.check((("atom", word),), word)
            self.check((("name", word, 1),), f"<{word} 1>")
            self.check((("tuple", word, (0,)),), f"0={word}(@0)")
        for many in (0, 13, 14, 100):
            word = "b" * many
            for line in (word, f"<{word} 1>", f"0={word}(@0)", f"{word}(1)"):
                self.check_bad(line)

    def test_numbers_of_parts(self):
        for many in range(9):
            line = "f(" + " ".join(["a"] * many) + ")"
            if 1 <= many <= 6:
                self.check((("tuple", "f", (1,) * many), ("atom", "a")), line)
            else:
                self.check_bad(line)

    def test_not_only_least_graphs_have_a_text(self):
        self.check(shapes.circle(7, "f"), "0=f(@0)")
        self.check((("tuple", "f", (2, 3)), ("int", 9), ("atom", "a"), ("atom", "a")), "f(a a)")
        self.check((("tuple", "f", (4,)), ("int", 1), ("int", 2), ("int", 3), ("tuple", "g", (4,))), "f(1=g(@1))")
        self.check((("tuple", "f", (2,)), ("tuple", "g", (1,)), ("tuple", "g", (2,))), "f(1=g(@1))")

    def test_the_tuple_that_is_met_inside_of_itself_has_its_number_in_the_least_graph(self):
        graph = (("tuple", "f", (4, 3)), ("int", 1), ("int", 2), ("tuple", "g", (3,)), ("tuple", "h", (2, 1)))
        self.check(graph, "f(h(2 1) 4=g(@4))")

    def test_a_number_of_two_digits(self):
        row = tuple(("tuple", "f", (k + 1,)) for k in range(12))
        self.check(row + (("tuple", "g", (12,)),), "f(" * 12 + "12=g(@12)" + ")" * 12)
        self.check(row + (("tuple", "g", (12, 10)),), "f(" * 10 + "10=f(f(12=g(@12 @10)))" + ")" * 10)

    def test_some_graphs(self):
        for graph in shapes.some_graphs(10, 3000, 7):
            self.check(graph, naive.text(graph))

    def test_lines_that_are_nearly_texts(self):
        chance = random.Random(11)
        signs = "01f(g) @=_<>-"
        texts = sorted({naive.text(graph) for graph in shapes.some_graphs(12, 300, 4)})
        for text in texts:
            for _ in range(40):
                at, sign = chance.randrange(len(text)), chance.choice(signs)
                line = chance.choice([text[:at] + text[at + 1:], text[:at] + sign + text[at:],
                                      text[:at] + sign + text[at + 1:]])
                self.check_line(line)

    def check_line(self, line):
        """Whatever is read has exactly this text, by the words of point 6."""
        try:
            graph = read_graph(line)
        except BadText:
            return
        self.assertTrue(is_graph(graph))
        self.assertEqual(naive.text(graph), line)
        self.assertEqual(naive.least(graph), graph)

    def test_all_short_lines(self):
        # All lines of up to 4 signs, of which just these are texts.
        leaves = ["0", "1", "f", "-1", "_0", "_1", "10", "11", "f0", "f1", "ff"]
        lines = [""]
        found = []
        for _ in range(4):
            lines = [line + sign for line in lines for sign in "01f( )@=_<>-"]
            for line in lines:
                try:
                    found.append((line, read_graph(line)))
                except BadText:
                    pass
        for line, graph in found:
            self.assertEqual(naive.text(graph), line)
        texts = [line for line, _ in found]
        for leaf in leaves:
            self.assertIn(leaf, texts)
        self.assertEqual([line for line in texts if "(" in line], ["f(0)", "f(1)", "f(f)"])
        numbers = [line for line in texts if line.lstrip("-_").isdigit()]
        expected = [str(n) for n in range(10 ** 4) if set(str(n)) <= set("01")]
        self.assertEqual(
            sorted(numbers),
            sorted(expected + [f"-{n}" for n in expected if n != "0" and len(n) < 4]
                   + [f"_{n}" for n in expected if len(n) < 4]))


class Bounds(unittest.TestCase):

    def test_nodes(self):
        for many in (1, 2, 399, 400):
            row = shapes.row(many)
            text = "f(" * (many - 1) + "a" + ")" * (many - 1)
            self.assertEqual(graph_text(row), text)
            self.assertEqual(graph_text(shapes.shuffled(row, many)), text)
            self.assertEqual(read_graph(text), row)
        for many in (401, 402, 1000, 6667):
            with self.assertRaises(BadText):
                read_graph("f(" * (many - 1) + "a" + ")" * (many - 1))

    def test_nodes_of_circles(self):
        for many in (2, 399, 400):
            circle = shapes.circle(many)
            text = "0=g(" + "f(" * (many - 1) + "@0" + ")" * many
            self.assertEqual(graph_text(circle), text)
            self.assertEqual(read_graph(text), circle)
        for many in (401, 402, 1000):
            with self.assertRaises(BadText):
                read_graph("0=g(" + "f(" * (many - 1) + "@0" + ")" * many)

    def test_different_nodes_count_not_places(self):
        wide = "f(" + " ".join(["g(" + " ".join(["h(" + " ".join(["a"] * 6) + ")"] * 6) + ")"] * 6) + ")"
        self.assertEqual(len(read_graph(wide)), 4)
        numbers = [f"r({n})" for n in range(198)]
        line = numbers[0]
        for k in range(1, 198):
            line = f"h({numbers[k]} {line})"
        # 198 numbers, 198 tuples r, 197 tuples h
        with self.assertRaises(BadText):
            read_graph(line)
        numbers = [str(n) for n in range(200)]
        line = numbers[0]
        for k in range(1, 200):
            line = f"h({numbers[k]} {line})"
        self.assertEqual(len(read_graph(line)), 399)
        self.assertEqual(len(read_graph(f"s({line})")), 400)
        with self.assertRaises(BadText):
            read_graph(f"t(s({line}))")

    def check_length(self, length, is_round):
        graph, text = shapes.long_text_graph(length, is_round)
        self.assertEqual(len(text), length)
        self.assertTrue(is_graph(graph))
        if length <= 20000:
            self.assertEqual(graph_text(graph), text)
            self.assertEqual(read_graph(text), least(graph))
            return
        with self.assertRaises(TooMany):
            graph_text(graph)
        with self.assertRaises(BadText):
            read_graph(text)

    def test_characters(self):
        for length in list(range(19980, 20021)) + [5000, 25000]:
            for is_round in (False, True):
                with self.subTest(length=length, is_round=is_round):
                    self.check_length(length, is_round)

    def test_a_number_that_is_written_late_counts(self):
        # The text without `0=` has 20,000 characters, or 19,998.
        graph, text = shapes.long_text_graph(20002, True)
        self.assertEqual(len(text.replace("0=", "")), 20000)
        with self.assertRaises(TooMany):
            graph_text(graph)
        self.check_length(20000, True)

    def test_texts_that_would_be_far_too_long(self):
        for parts in (2, 6):
            for many in (40, 400):
                graph = tuple(("tuple", "f", (k + 1,) * parts) for k in range(many - 1)) + (("int", 1),)
                with self.assertRaises(TooMany):
                    graph_text(graph)
        every = tuple(("tuple", f"t{k}", ((k + 1) % 30, (k + 7) % 30, (2 * k) % 30)) for k in range(30))
        with self.assertRaises(TooMany):
            graph_text(every)

    def test_the_longest_text_of_few_nodes(self):
        # 2 * length + 4 characters for each tuple
        graph = tuple(("tuple", "f", (k + 1, k + 1)) for k in range(11)) + (("int", 1),)
        text = "1"
        for _ in range(11):
            text = f"f({text} {text})"
        self.assertEqual(len(text), 10236)
        self.assertEqual(graph_text(graph), text)
        self.assertEqual(read_graph(text), graph)
        with self.assertRaises(TooMany):
            graph_text(tuple(("tuple", "f", (k + 1, k + 1)) for k in range(12)) + (("int", 1),))

    def test_long_lines_that_are_no_texts(self):
        for line in ["(", ")", " ", "<", "@", "=", "_", "-", "a", "1", "a ", "f(", "f(a ", "0=f(", "0=f(@0 ", "<a 1> "]:
            with self.subTest(line=line):
                for length in (20000, 20001):
                    with self.assertRaises(BadText):
                        read_graph((line * length)[:length])


if __name__ == "__main__":
    unittest.main()
