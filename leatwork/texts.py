"""The texts of trees (point 6)."""

from leatwork.errors import BadText, TooMany
from leatwork.graphs import is_graph, least, parts_of

MOST_TEXT = 20000
# 10 ** 9 has 10 digits.
MOST_DIGITS = 10


def graph_text(graph):
    """Returns the text of the tree; raises TooMany if it would be longer than MOST_TEXT."""
    text = _written(least(graph))
    if len(text) > MOST_TEXT:
        raise TooMany("the text is too long")
    return text


def _written(graph):
    """Returns the text of a least graph, or more than MOST_TEXT characters of it if it is longer."""
    pieces = []
    # For each tuple that is being written the place of its number and `=`.
    places = {}
    work = [("", 0)]
    turns = 0
    # Each turn writes at least one character, so more turns are not needed.
    while work and turns <= MOST_TEXT:
        turns += 1
        sign, k = work.pop()
        pieces.append(sign)
        if sign == ")":
            del places[k]
        elif k in places:
            pieces[places[k]] = f"{k}="
            pieces.append(f"@{k}")
        elif graph[k][0] == "tuple":
            places[k] = len(pieces)
            pieces.extend(["", graph[k][1], "("])
            work.append((")", k))
            work.extend(_with_signs(parts_of(graph[k])))
        else:
            pieces.append(_leaf_text(graph[k]))
    return "".join(pieces)


def _with_signs(parts):
    """Returns the pairs of what is in front of a part and the part, the last part first."""
    return [(" ", part) for part in parts[:0:-1]] + [("", parts[0])]


def _leaf_text(node):
    if node[0] == "var":
        return f"_{node[1]}"
    if node[0] == "name":
        return f"<{node[1]} {node[2]}>"
    return f"{node[1]}"


def read_graph(line):
    """Returns the least graph of a text; raises BadText if the line is no text of a tree."""
    if len(line) > MOST_TEXT:
        raise BadText("the line is too long")
    graph = least(_parsed(line))
    # The text of a tree is the only one, so whatever the parser has let pass shows here.
    if not is_graph(graph) or _written(graph) != line:
        raise BadText("the line is not the text of a tree")
    return graph


def _parsed(line):
    """Returns the list of the nodes of the tree if the line is a text, otherwise of any nodes, or raises BadText."""
    nodes = []
    open_tuples = []
    # In a text, the last tuple with a number is the one around each `@` with it.
    marked = {}
    parts = [[]]
    for word in _words(line):
        if word == ")" and open_tuples:
            k, label = open_tuples.pop()
            nodes[k] = ("tuple", label, tuple(parts.pop()))
        elif word.startswith("@") and word[1:] in marked:
            parts[-1].append(marked[word[1:]])
        elif word.endswith("("):
            mark, _, label = word[:-1].rpartition("=")
            marked[mark] = len(nodes)
            open_tuples.append((len(nodes), label))
            parts[-1].append(len(nodes))
            parts.append([])
            nodes.append(None)
        else:
            parts[-1].append(len(nodes))
            nodes.append(_leaf(word))
    if open_tuples or len(parts[0]) != 1:
        raise BadText("the line is not one tree")
    return nodes


def _words(line):
    """Returns the beginnings of tuples, each with its `(`, their ends and the leaves."""
    words = []
    for word in line.replace("(", "( ").replace(")", " )").split(" "):
        if words and words[-1].startswith("<") and " " not in words[-1]:
            # A name is one word, although there is a space in it.
            words[-1] = f"{words[-1]} {word}"
        else:
            words.append(word)
    return words


def _leaf(word):
    if word.startswith("_"):
        return ("var", _number(word[1:]))
    if word.startswith("<"):
        atom, _, digits = word[1:-1].partition(" ")
        return ("name", atom, _number(digits))
    if word.startswith("-"):
        return ("int", -_number(word[1:]))
    if word[:1].isdigit():
        return ("int", _number(word))
    return ("atom", word)


def _number(digits):
    if len(digits) > MOST_DIGITS or not (digits.isascii() and digits.isdigit()):
        raise BadText("a number is none")
    return int(digits)
