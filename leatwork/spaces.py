"""Spaces (point 36)."""

from leatwork.errors import NotReady
from leatwork.machine import Machine
from leatwork.schedules import run

# The statuses of a space, each with the status of a thread that it takes; the first one that applies is that of it.
STATUSES = (("limit", "ready"), ("failed", "broken"), ("choosing", "choosing"), ("waiting", "waiting"))


class Space:
    """A machine of its own, which is asked, chooses and is told something."""

    def __init__(self, program):
        self._program = program
        self._machine = Machine(program)

    def ask(self):
        """Runs the machine, and returns the status of the space."""
        run(self._machine, [])
        there = self._statuses()
        for status, of_thread in STATUSES:
            if of_thread in there:
                return status
        return "done"

    def _statuses(self):
        return [self._machine.status(k) for k in range(self._machine.threads())]

    def commit(self, second):
        """Asks the space, and lets the choosing thread with the least number choose; raises NotReady."""
        if self.ask() != "choosing":
            raise NotReady("the space has nothing to choose")
        self._machine.choose(self._statuses().index("choosing"), second)

    def tell(self, index, graph):
        """Makes a given variable equal to a tree; raises TooMany or Failed, and changes nothing then."""
        told = self._machine.copy()
        told.tell(told.given(index), told.add(graph))
        self._machine = told

    def trees(self):
        """Returns the list of the least graphs of the given variables; raises TooMany."""
        given, _ = self._program
        return [self._machine.graph(self._machine.given(k)) for k in range(len(given))]

    def outcome(self):
        """Returns the outcome of the machine; raises TooMany."""
        return self._machine.outcome()

    def copy(self):
        """Returns a space that behaves as this one, independent of it."""
        other = Space(self._program)
        other._machine = self._machine.copy()
        return other
