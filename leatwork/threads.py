"""The threads of a machine, and the triggers that start some (points 13 and 14)."""

from leatwork.errors import NotReady
from leatwork.forms import with_more
from leatwork.outcomes import outcome_counts, outcome_texts
from leatwork.world import has_to_wait


class Thread:
    """A stack of frames: pairs of a statement and the nodes of identifiers.

    A handler is a frame, too, with ("handler", x, t) in the place of a statement.
    """

    def __init__(self, frames):
        self.stack = list(frames)
        # The node that the last step found that it has to wait for.
        self.waits = None
        self.broken_by = None

    def copy(self):
        """Returns a thread that behaves as this one, independent of it."""
        other = Thread(self.stack)
        other.waits = self.waits
        other.broken_by = self.broken_by
        return other

    def is_choosing(self):
        """Tells whether the next statement is a choose."""
        return bool(self.stack) and self.stack[-1][0][0] == "choose"

    def throw(self, node):
        """Raises a node in the thread."""
        while self.stack:
            statement, nodes = self.stack.pop()
            if statement[0] == "handler":
                self.stack.append((statement[2], with_more(nodes, [statement[1]], [node])))
                return
        self.broken_by = node

    def break_by(self, node):
        """Breaks the thread, whatever handlers it has."""
        self.stack = []
        self.broken_by = node


class Crew:
    """The threads of a machine, and its triggers: pairs of a variable and a thread that is not started.

    It is all of a machine but for what a step of a thread does.
    """

    def __init__(self, world, most):
        self.world = world
        self.members = []
        self.triggers = []
        self.taken = 0
        self._most = most

    def copy(self):
        """Returns a crew that behaves as this one, independent of it, with a world of its own."""
        other = Crew(self.world.copy(), self._most)
        other.members = [thread.copy() for thread in self.members]
        # What a trigger starts is never changed, so it may be in both.
        other.triggers = list(self.triggers)
        other.taken = self.taken
        return other

    def begin_step(self, number):
        """Returns a thread that is to take a step now; raises NotReady."""
        thread = self._with_status(number, "ready")
        thread.waits = None
        self.taken += 1
        return thread

    def end_step(self, thread, answer):
        """Gives a thread the answer of its step, and starts what is due behind it."""
        if has_to_wait(answer):
            thread.waits = answer[1]
        elif answer is not None:
            thread.throw(answer[1])
        if not self.start_due():
            thread.break_by(self.world.raised_nodes["threads"])

    def choosing(self, number):
        """Returns a thread that is choosing; raises NotReady."""
        return self._with_status(number, "choosing")

    def _with_status(self, number, status):
        if not 0 <= number < len(self.members) or self.status(number) != status:
            raise NotReady("the thread has another status")
        return self.members[number]

    def status(self, number):
        """Returns the status of a thread."""
        thread = self.members[number]
        if thread.broken_by is not None:
            return "broken"
        if not thread.stack:
            return "done"
        if thread.is_choosing():
            return "choosing"
        if thread.waits is not None and not self.world.store.is_bound(thread.waits):
            return "waiting"
        return "ready"

    def with_status(self, status):
        """Returns the ascending list of the threads with a status."""
        return [k for k in range(len(self.members)) if self.status(k) == status]

    def waits_for(self, number):
        """Returns the representative that a thread waits for, or None."""
        if self.status(number) != "waiting":
            return None
        return self.world.store.representative(self.members[number].waits)

    def start(self, thread):
        """Makes it a thread of the machine, and returns the answer."""
        if len(self.members) >= self._most:
            return self.world.raising("threads")
        self.members.append(thread)
        return None

    def need(self, x, thread):
        """Starts a thread as soon as x is needed, and returns the answer."""
        if self._is_needed(x, self._waited_for()):
            return self.start(thread)
        self.triggers.append((x, thread))
        return None

    def _waited_for(self):
        return [self.waits_for(k) for k in self.with_status("waiting")]

    def _is_needed(self, x, waited_for):
        return self.world.store.is_bound(x) or self.world.store.representative(x) in waited_for

    def start_due(self):
        """Starts what triggers are to start now, and takes them away; tells whether there was room for all of it."""
        if not self.triggers:
            return True
        waited_for = self._waited_for()
        due, rest = [], []
        for x, thread in self.triggers:
            rows = due if self._is_needed(x, waited_for) else rest
            rows.append((x, thread))
        self.triggers = rest
        answers = [self.start(thread.copy()) for _, thread in due]
        return all([answer is None for answer in answers])

    def tell(self, first, second):
        """Makes two nodes equal from outside; raises Failed."""
        self.world.store.unify(first, second)
        self.start_due()

    def raised(self, number):
        """Returns the least graph of what broke a thread, or None; raises TooMany."""
        node = self.members[number].broken_by
        return None if node is None else self.world.store.graph(node)

    def outcome(self):
        """Returns the outcome; raises TooMany."""
        texts = outcome_texts([self.world.store.graph(node) for node in self.world.given_nodes])
        return texts, outcome_counts([self.status(k) for k in range(len(self.members))])
