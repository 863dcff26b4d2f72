"""Graphs for the tests."""

import random


def atom(word="a"):
    return ("atom", word)


def row(many, last="a"):
    """A row of nodes, each the part of the one before: tuples, and an atom at the end."""
    return tuple(("tuple", "f", (k + 1,)) for k in range(many - 1)) + (atom(last),)


def circle(many, label="g"):
    """Tuples, each the part of the one before, and the first one of the last one; the first one has its own label."""
    return (("tuple", label, (1 % many,)),) + tuple(("tuple", "f", ((k + 1) % many,)) for k in range(1, many))


def shuffled(graph, seed):
    """The same tree, with its nodes at other places; the root stays."""
    places = list(range(1, len(graph)))
    random.Random(seed).shuffle(places)
    places = [0] + places
    nodes = [None] * len(graph)
    for k, node in enumerate(graph):
        if node[0] == "tuple":
            node = ("tuple", node[1], tuple(places[p] for p in node[2]))
        nodes[places[k]] = node
    return tuple(nodes)


def some_node(chance, many):
    kind = chance.choice(["tuple"] * 4 + ["var", "int", "atom", "name"])
    if kind == "tuple":
        return ("tuple", chance.choice("fg"), tuple(chance.randrange(many) for _ in range(chance.randint(1, 2))))
    if kind == "name":
        return ("name", chance.choice("fg"), chance.randrange(2))
    if kind == "atom":
        return ("atom", chance.choice("fg"))
    return (kind, chance.randrange(2))


def some_graphs(seed, many, most_nodes):
    """Small graphs, many of which have several nodes for one tree, circles and nodes aside."""
    chance = random.Random(seed)
    for _ in range(many):
        size = chance.randint(1, most_nodes)
        nodes = [some_node(chance, size) for _ in range(size)]
        if size > 1 and chance.randrange(4):
            nodes[0] = ("tuple", "f", tuple(chance.randrange(size) for _ in range(2)))
        yield tuple(nodes)


def padding(length):
    """A nested tree whose text has this many characters."""
    if length <= 12:
        return atom("a" * length)
    if length <= 16:
        return ("tuple", "p", (padding(length - 3),))
    return ("tuple", "p", (atom("a" * 12), padding(length - 16)))


class Builder:
    """Makes a graph node by node, with one node for each different one."""

    def __init__(self):
        self.nodes = []
        self.known = {}

    def put(self, node):
        if node not in self.known:
            self.known[node] = len(self.nodes)
            self.nodes.append(node)
        return self.known[node]

    def put_nested(self, nested):
        if nested[0] == "tuple":
            nested = nested[:2] + (tuple(self.put_nested(part) for part in nested[2]),)
        return self.put(nested)


def long_text_graph(length, is_round):
    """A graph and its text, which has this many characters; is_round: the root is met inside of itself."""
    build = Builder()
    build.nodes.append(None)
    block = ("tuple", "b", (atom("a" * 12),) * 6)
    block_text = "b(" + " ".join(["a" * 12] * 6) + ")"
    k = build.put_nested(block)
    # The root adds `h(`, a space and `)` to its block, the rows h(block rest) as much each.
    many = (length - 100) // (len(block_text) + 4)
    left = length - many * (len(block_text) + 4)
    if is_round:
        # `0=` in front, and `q(@0 ` and `)` around the padding.
        rest = build.put(("tuple", "q", (0, build.put_nested(padding(left - 8)))))
    else:
        rest = build.put_nested(padding(left))
    for _ in range(many - 1):
        rest = build.put(("tuple", "h", (k, rest)))
    build.nodes[0] = ("tuple", "h", (k, rest))
    return tuple(build.nodes), written_padding(many, block_text, left, is_round)


def written_padding(many, block_text, left, is_round):
    tail = nested_text(padding(left - 8)) if is_round else nested_text(padding(left))
    if is_round:
        tail = f"q(@0 {tail})"
    front = "0=" if is_round else ""
    return front + f"h({block_text} " * many + tail + ")" * many


def nested_text(nested):
    if nested[0] == "tuple":
        return nested[1] + "(" + " ".join(map(nested_text, nested[2])) + ")"
    return nested[1]


def fan(many_numbers):
    """A tree of tuples with 6 parts each, 259 in all, with numbers at level 4, and z = z(z) where they end."""
    nodes = []
    firsts = [1, 7, 43, 259]
    for level, many in enumerate([1, 6, 36]):
        for k in range(many):
            first = firsts[level] + 6 * k
            nodes.append(("tuple", f"t{len(nodes)}", tuple(range(first, first + 6))))
    loop = 259 + many_numbers
    for k in range(216):
        nodes.append(("tuple", f"t{len(nodes)}", (259 + k if k < many_numbers else loop,)))
    nodes.extend(("int", n) for n in range(many_numbers))
    nodes.append(("tuple", "z", (loop,)))
    return tuple(nodes)
