"""The threads of a code machine (point 32)."""

from leatwork.threads import Thread


class Activation:
    """A unit of the code that is being done: the nodes of its registers, where it is, and its handlers."""

    def __init__(self, code, number, nodes):
        given, registers, _ = code[number]
        self.code = code
        self.number = number
        # A register that has no node yet has None.
        self.nodes = list(nodes) + [None] * (registers - given)
        self.place = 0
        # Pairs of an index and a register.
        self.handlers = []

    def copy(self):
        """Returns an activation that behaves as this one, independent of it."""
        other = Activation(self.code, self.number, [])
        other.nodes = list(self.nodes)
        other.place = self.place
        other.handlers = list(self.handlers)
        return other

    def instruction(self):
        """Returns the instruction where it is."""
        return self.code[self.number][2][self.place]


class CodeThread(Thread):
    """A stack of activations."""

    def copy(self):
        """Returns a thread that behaves as this one, independent of it."""
        other = CodeThread([active.copy() for active in self.stack])
        other.waits = self.waits
        other.broken_by = self.broken_by
        return other

    def is_choosing(self):
        """Tells whether the next instruction is a choose."""
        return bool(self.stack) and self.stack[-1].instruction()[0] == "choose"

    def throw(self, node):
        """Raises a node in the thread."""
        while self.stack:
            active = self.stack[-1]
            if active.handlers:
                place, r = active.handlers.pop()
                active.place = place
                active.nodes[r] = node
                return
            self.stack.pop()
        self.broken_by = node
