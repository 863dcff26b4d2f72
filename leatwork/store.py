"""The store: nodes that can be made equal (points 7 and 8)."""

from leatwork.errors import Failed, TooMany
from leatwork.graphs import MOST_NODES, least, look, parts_of, with_parts

MOST_STORE = 2000


class Store:
    """Nodes, and which of them are equal.

    The nodes that are equal hang together below one of them, the top. When two tops are joined, the one with
    fewer nodes goes below the other one; so each node is at most 10 deep, and a join can be undone.
    """

    def __init__(self):
        self._nodes = []
        self._above = []
        # These two hold for the tops only.
        self._sizes = []
        self._chosen = []

    def variable(self):
        """Makes a variable and returns its number; raises TooMany."""
        return self.make(("var", len(self._nodes)))

    def integer(self, n):
        """Makes an integer and returns its number; raises TooMany."""
        return self.make(("int", n))

    def atom(self, a):
        """Makes an atom and returns its number; raises TooMany."""
        return self.make(("atom", a))

    def name(self, a, n):
        """Makes a name and returns its number; raises TooMany."""
        return self.make(("name", a, n))

    def tuple_of(self, a, parts):
        """Makes a tuple of nodes and returns its number; raises TooMany."""
        return self.make(("tuple", a, tuple(parts)))

    def make(self, node):
        """Makes a node of the form of point 3 and returns its number; raises TooMany."""
        number = len(self._nodes)
        if number >= MOST_STORE:
            raise TooMany("the store is full")
        self._nodes.append(node)
        self._above.append(number)
        self._sizes.append(1)
        self._chosen.append(number)
        return number

    def add(self, graph):
        """Makes the nodes of the least graph and returns the number of its root; raises TooMany."""
        nodes = least(graph)
        root = len(self._nodes)
        if root + len(nodes) > MOST_STORE:
            raise TooMany("the store has no room for the graph")
        numbers = list(range(root, root + len(nodes)))
        for node in nodes:
            if node[0] == "var":
                self.variable()
            else:
                self.make(with_parts(node, numbers))
        return root

    def unify(self, first, second):
        """Makes the nodes equal; returns the variables that are no representatives any more. Raises Failed."""
        can_be, joins = self._joined_for(first, second)
        if not can_be:
            self._undo(joins)
            raise Failed("the nodes cannot be equal")
        return self._lost_variables(joins)

    def would_unify(self, first, second):
        """Returns "yes", "no" or "open", as the nodes stand for the same tree, cannot do so, or neither."""
        can_be, joins = self._joined_for(first, second)
        lost = self._lost_variables(joins)
        self._undo(joins)
        if not can_be:
            return "no"
        # Trees that are the same already ask for nothing of a variable.
        return "open" if lost else "yes"

    def _joined_for(self, first, second):
        """Joins what has to be equal if two nodes are, up to where it cannot be.

        Returns whether it can be, and the list of what was joined.
        """
        joins = []
        pairs = [(first, second)]
        while pairs:
            one, other = pairs.pop()
            upper, lower = self._top(one), self._top(other)
            if upper == lower:
                continue
            kept, lost = self._in_order(self._chosen[upper], self._chosen[lower])
            if not self._is_variable(lost):
                if look(self._nodes[kept]) != look(self._nodes[lost]):
                    return False, joins
                pairs.extend(list(zip(parts_of(self._nodes[kept]), parts_of(self._nodes[lost]))))
            joins.append(self._joined(upper, lower, kept, lost))
        return True, joins

    def _in_order(self, one, other):
        """Returns two representatives, first the one that is that of both when they are equal."""
        if self._is_variable(one) == self._is_variable(other):
            return min(one, other), max(one, other)
        return (other, one) if self._is_variable(one) else (one, other)

    def _is_variable(self, node):
        return self._nodes[node][0] == "var"

    def _joined(self, upper, lower, kept, lost):
        """Joins two tops; returns what is needed to undo this, and at its end which representative is none now."""
        if self._sizes[upper] < self._sizes[lower]:
            upper, lower = lower, upper
        before = self._chosen[upper]
        self._above[lower] = upper
        self._sizes[upper] += self._sizes[lower]
        self._chosen[upper] = kept
        return upper, lower, before, lost

    def _undo(self, joins):
        for upper, lower, before, _ in joins[::-1]:
            self._chosen[upper] = before
            self._sizes[upper] -= self._sizes[lower]
            self._above[lower] = lower

    def _lost_variables(self, joins):
        return sorted([lost for _, _, _, lost in joins if self._is_variable(lost)])

    def _top(self, node):
        while self._above[node] != node:
            node = self._above[node]
        return node

    def representative(self, node):
        """Returns the representative of a node."""
        return self._chosen[self._top(node)]

    def is_bound(self, node):
        """Tells whether a node is bound."""
        return not self._is_variable(self.representative(node))

    def value(self, node):
        """Returns the node of the representative, with representatives as parts."""
        found = self._nodes[self.representative(node)]
        if found[0] != "tuple":
            return found
        return ("tuple", found[1], tuple([self.representative(part) for part in found[2]]))

    def graph(self, node):
        """Returns the least graph of the tree that a node stands for; raises TooMany."""
        met = [self.representative(node)]
        numbers = {met[0]: 0}
        rows = []
        while len(rows) < len(met):
            found = self.value(met[len(rows)])
            for part in parts_of(found):
                if part not in numbers:
                    numbers[part] = len(met)
                    met.append(part)
            rows.append(with_parts(found, numbers))
        result = least(tuple(rows))
        if len(result) > MOST_NODES:
            raise TooMany("the tree has too many nodes")
        return result

    def size(self):
        """Returns the number of nodes."""
        return len(self._nodes)

    def copy(self):
        """Returns a store that behaves as this one, independent of it."""
        other = Store()
        other._nodes = list(self._nodes)
        other._above = list(self._above)
        other._sizes = list(self._sizes)
        other._chosen = list(self._chosen)
        return other
