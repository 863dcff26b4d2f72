"""The plainest store, for small ones: each answer is worked out anew from the words of points 7 and 8.

Nothing here imports the program.
"""

from tests import naive


class CannotBe(Exception):
    pass


class NaiveStore:

    def __init__(self):
        self.nodes = []
        self.equations = []
        self.kept = []
        # Nodes that nothing is ever said of; they only take room.
        self.fillers = range(0)

    def make(self, *node):
        self.nodes.append(("var", len(self.nodes)) if node == ("var",) else node)
        self.kept.append(len(self.nodes) - 1)
        return len(self.nodes) - 1

    def fill(self, many):
        self.fillers = range(len(self.nodes), len(self.nodes) + many)
        self.nodes.extend(("atom", "a") for _ in range(many))
        self.kept.extend(self.fillers)

    def classes(self, equations):
        """The sets of equal nodes; raises CannotBe."""
        sets = [{k} for k in range(len(self.nodes)) if k not in self.fillers]
        tuples = [k for k in range(len(self.nodes)) if self.nodes[k][0] == "tuple"]

        def set_of(a):
            return next(s for s in sets if a in s)

        def join(a, b):
            one, other = set_of(a), set_of(b)
            if one is other:
                return False
            one |= other
            sets[:] = [s for s in sets if s is not other]
            return True

        changed = False
        for a, b in equations:
            changed = join(a, b) or changed
        while changed:
            changed = False
            for a in tuples:
                for b in list(set_of(a)):
                    if self.nodes[b][0] == "tuple":
                        for pair in zip(self.nodes[a][2], self.nodes[b][2]):
                            changed = join(*pair) or changed
        for s in sets:
            looks = {self.look(k) for k in s if self.nodes[k][0] != "var"}
            if len(looks) > 1:
                raise CannotBe
        return sets

    def look(self, k):
        node = self.nodes[k]
        return (node[0], node[1], len(node[2])) if node[0] == "tuple" else node

    def representatives(self, equations=None):
        if equations is None:
            return list(self.kept)
        found = list(range(len(self.nodes)))
        for s in self.classes(equations):
            bound = [k for k in s if self.nodes[k][0] != "var"]
            for k in s:
                found[k] = min(bound or s)
        return found

    def representative(self, k):
        return self.kept[k]

    def is_bound(self, k):
        return self.nodes[self.representative(k)][0] != "var"

    def value(self, k):
        found = self.kept
        node = self.nodes[found[k]]
        return node[:2] + (tuple(found[p] for p in node[2]),) if node[0] == "tuple" else node

    def unify(self, a, b):
        before = self.representatives()
        after = self.representatives(self.equations + [(a, b)])
        self.equations.append((a, b))
        self.kept = after
        return [k for k in range(len(self.nodes)) if self.nodes[k][0] == "var" and before[k] == k and after[k] != k]

    def would_unify(self, a, b):
        if self.graph(a) == self.graph(b):
            return "yes"
        try:
            self.classes(self.equations + [(a, b)])
        except CannotBe:
            return "no"
        return "open"

    def graph(self, k):
        order = [self.kept[k]]
        rows = []
        for j in order:
            node = self.value(j)
            if node[0] == "tuple":
                order.extend(part for part in dict.fromkeys(node[2]) if part not in order)
                node = node[:2] + (tuple(order.index(part) for part in node[2]),)
            rows.append(node)
        return naive.least(tuple(rows))
