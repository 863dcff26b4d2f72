"""The sites of a team: their machines, and what they tell each other (point 42).

A mark is a number that stands for the same node at all sites: for a shared variable, or for a part of the tree of one.
A letter is a pair: what marks mean, as pairs of a mark and a node whose parts are marks, and pairs of equal marks.
A mark of which nothing else is said is a variable.
"""

from leatwork.errors import Failed
from leatwork.graphs import parts_of, with_parts
from leatwork.machine import Machine
from leatwork.store import Store


class View:
    """A store, and its node for each mark that is known there."""

    def __init__(self, store, nodes):
        self.store = store
        self.nodes = dict(nodes)

    def representative(self, mark):
        """Returns the representative of the node of a mark."""
        return self.store.representative(self.nodes[mark])

    def is_bound(self, mark):
        """Tells whether the node of a mark is bound."""
        return self.store.is_bound(self.nodes[mark])

    def read(self, letter):
        """Makes the nodes that a letter needs, and returns the pairs that it makes equal; raises TooMany."""
        meanings, equations = letter
        told = [mark in self.nodes for mark, _ in meanings]
        self._make_new(meanings, equations)
        pairs = [(self.nodes[one], self.nodes[other]) for one, other in equations]
        for (mark, node), was_there in zip(meanings, told):
            if was_there:
                pairs.append((self.nodes[mark], self.store.make(with_parts(node, self.nodes))))
        return pairs

    def _make_new(self, meanings, equations):
        """Makes a node for each mark of a letter that has none."""
        meant = {mark: node for mark, node in meanings if mark not in self.nodes}
        marks = [mark for pair in equations for mark in pair]
        for mark, node in meanings:
            marks.extend([mark, *parts_of(node)])
        begin = self.store.size()
        new = []
        for mark in marks:
            if mark not in self.nodes:
                self.nodes[mark] = begin + len(new)
                new.append(mark)
        for mark in new:
            if mark in meant:
                self.store.make(with_parts(meant[mark], self.nodes))
            else:
                self.store.variable()


class Member:
    """A site of a team.

    It keeps what all sites have been told so far, by it or by another one, and tells only what does not follow from it.
    """

    def __init__(self, program, marks, first, stride):
        """`marks` has the mark of each shared identifier; its own marks are `first` and then each a stride further."""
        given, _ = program
        self.machine = Machine(program)
        self.has_failed = False
        self._program = program
        self._fresh = first
        self._stride = stride
        shared = {marks[x]: self.machine.given(k) for k, x in enumerate(given) if x in marks}
        self._own = View(self.machine.crew.world.store, shared)
        store = Store()
        self._told = View(store, {mark: store.variable() for mark in shared})

    def copy(self):
        """Returns a member that behaves as this one, independent of it."""
        other = Member(self._program, {}, self._fresh, self._stride)
        other.machine = self.machine.copy()
        other.has_failed = self.has_failed
        other._own = View(other.machine.crew.world.store, self._own.nodes)
        other._told = View(self._told.store.copy(), self._told.nodes)
        return other

    def fail(self):
        """Lets the site fail."""
        self.has_failed = True

    def receive(self, letter):
        """Makes what a letter says hold here; raises Failed or TooMany."""
        for first, second in self._own.read(letter):
            self._own.store.unify(first, second)
        # Only behind the whole letter, so that triggers start in the order in which they were put.
        self.machine.crew.start_due()
        self._note(letter)

    def _note(self, letter):
        for first, second in self._told.read(letter):
            self._told.store.unify(first, second)

    def news(self):
        """Returns the letter of what the others are to be told, or None; raises Failed if that cannot be sent."""
        leaders, equations = self._led()
        meanings = self._meanings(leaders)
        self._note((meanings, []))
        return (meanings, equations) if meanings or equations else None

    def _led(self):
        """Returns a dict of a mark for each representative that has one, and the list of the equations to be told."""
        leaders = {}
        equations = []
        for mark in list(self._own.nodes):
            leader = leaders.setdefault(self._own.representative(mark), mark)
            if self._told.representative(leader) != self._told.representative(mark):
                equations.append((leader, mark))
                self._note(([], [(leader, mark)]))
        return leaders, equations

    def _meanings(self, leaders):
        """Returns the list of the meanings to be told, and puts marks for the nodes that need one into the dict."""
        store = self._own.store
        todo = [node for node, mark in leaders.items() if store.is_bound(node) and not self._told.is_bound(mark)]
        found = []
        while todo:
            node = todo.pop()
            value = store.value(node)
            if value[0] == "name":
                raise Failed("a name cannot be sent")
            for part in parts_of(value):
                if part not in leaders:
                    leaders[part] = self._new_mark(part)
                    if store.is_bound(part):
                        todo.append(part)
            found.append((leaders[node], with_parts(value, leaders)))
        return found

    def _new_mark(self, node):
        mark = self._fresh
        self._fresh += self._stride
        self._own.nodes[mark] = node
        return mark
