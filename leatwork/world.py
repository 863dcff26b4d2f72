"""What the threads of a machine share: the store, and what the names in it stand for (points 12 to 16).

What becomes of a step is an answer: None if it is done, ("wait", node) if it has to wait for the node, or
("raise", node) if the node is raised.
"""

from leatwork.errors import Failed
from leatwork.programs import BUILT_IN
from leatwork.store import MOST_STORE, Store

# What a machine raises itself, in the order of point 12.
RAISED = ("failure", "type", "arity", "range", "threads", "memory", "stack")


def has_to_wait(answer):
    """Tells whether it is an answer that waits."""
    return answer is not None and answer[0] == "wait"


class World:
    """A store, the nodes in it that are known from the beginning on, procedures, cells and ports."""

    def __init__(self):
        self.store = Store()
        self.given_nodes = []
        self.built_in_nodes = []
        self.raised_nodes = {}
        # By their numbers: for each procedure how many parameters it has and what a call of it enters, for each
        # cell what it holds, for each port its end. None stands for one that was not needed any more.
        self.named = {"proc": [], "cell": [], "port": []}

    def begin(self, many):
        """Makes the nodes of the beginning, with so many given variables."""
        self.given_nodes = [self.store.variable() for _ in range(many)]
        self.built_in_nodes = [self.store.name("builtin", k) for k in range(len(BUILT_IN))]
        self.raised_nodes = {word: self.store.atom(word) for word in RAISED}

    def copy(self):
        """Returns a world that behaves as this one, independent of it."""
        other = World()
        other.store = self.store.copy()
        other.given_nodes = list(self.given_nodes)
        other.built_in_nodes = list(self.built_in_nodes)
        other.raised_nodes = dict(self.raised_nodes)
        other.named = {word: list(rows) for word, rows in self.named.items()}
        return other

    def raising(self, word):
        """Returns the answer that raises an atom of the machine."""
        return ("raise", self.raised_nodes[word])

    def waiting(self, nodes):
        """Returns the answer that waits for the first of the nodes that is not bound, or None."""
        for node in nodes:
            if not self.store.is_bound(node):
                return ("wait", node)
        return None

    def truth_of(self, x):
        """Returns None and whether x is `true`, or the answer if it is neither `true` nor `false`, and None."""
        waiting = self.waiting((x,))
        if waiting is not None:
            return waiting, None
        value = self.store.value(x)
        if value not in (("atom", "true"), ("atom", "false")):
            return self.raising("type"), None
        return None, value[1] == "true"

    def lacks_room(self, many):
        """Tells whether the store has no room for so many nodes."""
        return self.store.size() + many > MOST_STORE

    def unified(self, first, second):
        """Makes two nodes equal, and returns the answer."""
        try:
            self.store.unify(first, second)
        except Failed:
            return self.raising("failure")
        return None

    def unified_with_new(self, x, value):
        """Makes x equal to a new node, and returns the answer."""
        if self.lacks_room(1):
            return self.raising("memory")
        return self.unified(x, self.store.make(value))

    def unified_with_truth(self, x, truth):
        """Makes x equal to a new atom `true` or `false`, and returns the answer."""
        return self.unified_with_new(x, ("atom", "true" if truth else "false"))

    def unified_with_name(self, x, word, what):
        """Makes x equal to a new procedure, cell or port, and returns the answer."""
        if self.lacks_room(1):
            return self.raising("memory")
        self.named[word].append(what)
        return self.unified(x, self.store.name(word, len(self.named[word]) - 1))

    def number_of(self, x, word):
        """Returns the number of the procedure, cell or port that x is, or None if it is none."""
        value = self.store.value(x)
        if value[0] != "name" or value[1] != word or value[2] >= len(self.named[word]):
            return None
        # Only `add` can bring in the name of one that is gone.
        return None if self.named[word][value[2]] is None else value[2]

    def built_in_number(self, x):
        """Returns the number of the built-in procedure that x is, or None if it is none."""
        value = self.store.value(x)
        if value[0] == "name" and value[1] == "builtin" and value[2] < len(BUILT_IN):
            return value[2]
        return None
