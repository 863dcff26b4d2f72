"""The plainest answers to what the program answers, for small graphs.

Nothing here imports the program; each function follows the words of DOC.md.
"""


def parts(node):
    return node[2] if node[0] == "tuple" else ()


def classes(graph):
    """Numbers the nodes so that two have the same number if they stand for the same tree."""
    numbers = [0 for _ in graph]
    for _ in range(len(graph) + 1):
        keys = [node[:2] + (tuple(numbers[p] for p in parts(node)),) if node[0] == "tuple" else node for node in graph]
        known = {}
        numbers = [known.setdefault(key, len(known)) for key in keys]
    return numbers


def least(graph):
    number = classes(graph)
    order = []
    kept = {}

    def meet(k):
        if number[k] not in kept:
            kept[number[k]] = len(order)
            order.append(k)
            for part in parts(graph[k]):
                meet(part)

    meet(0)
    return tuple(
        graph[k][:2] + (tuple(kept[number[p]] for p in graph[k][2]),) if graph[k][0] == "tuple" else graph[k]
        for k in order)


def is_infinite(graph):
    """Whether a node of the least graph leads back to itself."""
    rows = least(graph)

    def led_to(k):
        found, todo = set(), list(parts(rows[k]))
        while todo:
            part = todo.pop()
            if part not in found:
                found.add(part)
                todo.extend(parts(rows[part]))
        return found

    return any(k in led_to(k) for k in range(len(rows)))


def order_of_nodes(one, other):
    """The order of two nodes by themselves, by the words of point 5."""
    kinds = ["var", "int", "atom", "tuple", "name"]
    if one[0] != other[0]:
        return -1 if kinds.index(one[0]) < kinds.index(other[0]) else 1
    if one[0] == "tuple":
        keys = (len(one[2]), one[1]), (len(other[2]), other[1])
    else:
        keys = one[1:], other[1:]
    return (keys[0] > keys[1]) - (keys[0] < keys[1])


def compare(first, second):
    """All pairs of a level are written out; two trees that differ do so within as many levels as there are nodes."""
    level = [(0, 0)]
    for _ in range(len(first) + len(second)):
        for a, b in level:
            order = order_of_nodes(first[a], second[b])
            if order:
                return order
        level = [pair for a, b in level for pair in zip(parts(first[a]), parts(second[b]))]
    return 0


def tree(graph, k, depth):
    """The tree of a node as nested tuples, with the atom cut for the tuples at the depth."""
    node = graph[k]
    if node[0] != "tuple":
        return node
    if depth == 0:
        return ("atom", "cut")
    return ("tuple", node[1], tuple(tree(graph, p, depth - 1) for p in node[2]))


def graph_of(nested):
    """A graph of a finite tree that is given as nested tuples."""
    nodes = []

    def put(node):
        k = len(nodes)
        nodes.append(node)
        if node[0] == "tuple":
            nodes[k] = node[:2] + (tuple(put(part) for part in node[2]),)
        return k

    put(nested)
    return tuple(nodes)


def cut(graph, depth):
    return least(graph_of(tree(graph, 0, depth)))


def text(graph):
    rows = least(graph)

    def write(k, around):
        """The text of a node, and the tuples around it or itself that were met in it."""
        node = rows[k]
        if k in around:
            return f"@{k}", {k}
        if node[0] == "tuple":
            written = [write(part, around | {k}) for part in node[2]]
            met = {j for _, some in written for j in some}
            front = f"{k}=" if k in met else ""
            return f"{front}{node[1]}({' '.join(t for t, _ in written)})", met - {k}
        if node[0] == "name":
            return f"<{node[1]} {node[2]}>", set()
        return ("_" if node[0] == "var" else "") + str(node[1]), set()

    return write(0, frozenset())[0]
