"""Graphs, which stand for trees (points 3 to 5)."""

from leatwork.errors import TooMany
from leatwork.grouping import grouped

MOST_NODES = 400
MOST_NUMBER = 10 ** 9
MOST_SIGNS = 12
MOST_PARTS = 6
RANKS = {"var": 0, "int": 1, "atom": 2, "tuple": 3, "name": 4}


def is_integer_in(value, low, high):
    """Tells whether it is an integer from low to high; True and False are none."""
    return isinstance(value, int) and not isinstance(value, bool) and low <= value <= high


def is_atom(value):
    """Tells whether it is an atom."""
    if not isinstance(value, str) or not 1 <= len(value) <= MOST_SIGNS:
        return False
    return value.isascii() and value.isalnum() and value.islower() and value[0].isalpha()


def is_graph(value):
    """Tells whether it is a graph; it may be any value."""
    if not isinstance(value, tuple) or not 1 <= len(value) <= MOST_NODES:
        return False
    return all([_is_node(node, len(value)) for node in value])


def _is_node(node, many):
    if not isinstance(node, tuple):
        return False
    if len(node) == 2:
        return _is_short_node(node)
    return len(node) == 3 and _is_long_node(node, many)


def _is_short_node(node):
    kind, value = node
    if kind == "var":
        return is_integer_in(value, 0, MOST_NUMBER)
    if kind == "int":
        return is_integer_in(value, -MOST_NUMBER, MOST_NUMBER)
    return kind == "atom" and is_atom(value)


def _is_long_node(node, many):
    kind, atom, rest = node
    if not is_atom(atom):
        return False
    if kind == "name":
        return is_integer_in(rest, 0, MOST_NUMBER)
    return kind == "tuple" and _are_parts(rest, many)


def _are_parts(value, many):
    if not isinstance(value, tuple) or not 1 <= len(value) <= MOST_PARTS:
        return False
    return all([is_integer_in(part, 0, many - 1) for part in value])


def parts_of(node):
    """Returns the tuple of the parts of a node, which is empty if it is no tuple."""
    return node[2] if node[0] == "tuple" else ()


def look(node):
    """Returns all that two nodes can differ in, apart from their parts; it is ordered as trees are."""
    if node[0] == "tuple":
        return (RANKS["tuple"], len(node[2]), node[1])
    return (RANKS[node[0]], *node[1:])


def least(graph):
    """Returns the least graph of the tree."""
    group_of = grouped([look(node) for node in graph], [parts_of(node) for node in graph])
    one_of_each = {group_of[k]: with_parts(node, group_of) for k, node in enumerate(graph)}
    return _from_root(one_of_each, group_of[0])


def with_parts(node, numbers):
    """Returns the node with the numbers of its parts in place of its parts."""
    if node[0] != "tuple":
        return node
    return ("tuple", node[1], tuple([numbers[part] for part in node[2]]))


def _from_root(nodes, root):
    """Returns the graph of what the root leads to, numbered as it is met."""
    numbers = {}
    stack = [root]
    while stack:
        k = stack.pop()
        if k not in numbers:
            numbers[k] = len(numbers)
            stack.extend(parts_of(nodes[k])[::-1])
    return tuple([with_parts(nodes[k], numbers) for k in numbers])


def is_infinite(graph):
    """Tells whether the tree is infinite."""
    # True while the walk is inside of a node, False when it has come out again.
    inside = {}
    stack = [(0, True)]
    while stack:
        k, goes_in = stack.pop()
        if not goes_in:
            inside[k] = False
        elif k not in inside:
            inside[k] = True
            stack.append((k, False))
            stack.extend([(part, True) for part in parts_of(graph[k])])
        elif inside[k]:
            return True
    return False


def compare(first, second):
    """Returns -1, 0 or 1, as the first tree comes before, is, or comes behind the second one."""
    pairs = [(0, 0)]
    known = {(0, 0): True}
    at = 0
    while at < len(pairs):
        one, other = first[pairs[at][0]], second[pairs[at][1]]
        if look(one) != look(other):
            return -1 if look(one) < look(other) else 1
        # A pair that was met before can be passed over: what differs below
        # it differs below the earlier one, too, and is met there first.
        for pair in zip(parts_of(one), parts_of(other)):
            if pair not in known:
                known[pair] = True
                pairs.append(pair)
        at += 1
    return 0


def cut(graph, depth):
    """Returns the least graph of the tree with the atom `cut` for each tuple at the depth.

    Raises TooMany if it would have more than MOST_NODES nodes.
    """
    if depth < 0:
        # No tuple is above the root.
        return least(graph)
    # Each different tree is one key, as its parts are numbers of such keys.
    trees = {}
    tops = [_cut_off(node) for node in graph]
    numbers = [trees.setdefault(node, len(trees)) for node in tops]
    for _ in range(depth):
        tops = [with_parts(node, numbers) for node in graph]
        numbers = [trees.setdefault(node, len(trees)) for node in tops]
    result = _from_root(list(trees), numbers[0])
    if len(result) > MOST_NODES:
        raise TooMany("the tree that is cut has too many nodes")
    return result


def _cut_off(node):
    return ("atom", "cut") if node[0] == "tuple" else node
