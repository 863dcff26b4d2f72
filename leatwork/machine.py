"""The machine (points 12 to 17)."""

from leatwork.errors import NotReady
from leatwork.forms import with_more
from leatwork.outcomes import outcome_counts, outcome_texts
from leatwork.programs import BUILT_IN
from leatwork.statements import do_statement
from leatwork.threads import Crew, Thread
from leatwork.world import World

MOST_THREADS = 60


class Machine:
    """A machine that interprets a program."""

    def __init__(self, program):
        given, statement = program
        world = World()
        world.begin(len(given))
        nodes = with_more({}, given + BUILT_IN, world.given_nodes + world.built_in_nodes)
        self._program = program
        self._steps = 0
        self._crew = Crew(world, MOST_THREADS)
        self._crew.start(Thread([(statement, nodes)]))

    def threads(self):
        """Returns the number of threads."""
        return len(self._crew.members)

    def status(self, thread):
        """Returns the status of a thread."""
        return self._crew.status(thread)

    def ready(self):
        """Returns the ascending list of the ready threads."""
        return self._crew.with_status("ready")

    def waits_for(self, thread):
        """Returns the representative that a waiting thread waits for, or None."""
        return self._crew.waits_for(thread)

    def step(self, thread):
        """Takes a step of a thread; raises NotReady."""
        if not 0 <= thread < self.threads() or self.status(thread) != "ready":
            raise NotReady("the thread is not ready")
        self._steps += 1
        stepping = self._crew.members[thread]
        stepping.waits = None
        frame = stepping.stack.pop()
        answer = do_statement(self._crew, stepping, frame[0], frame[1])
        if answer is not None and answer[0] == "wait":
            stepping.stack.append(frame)
            stepping.waits = answer[1]
        elif answer is not None:
            stepping.throw(answer[1])
        if not self._crew.start_due():
            stepping.break_by(self._crew.world.raised_nodes["threads"])

    def choose(self, thread, second):
        """Lets a choosing thread choose; raises NotReady."""
        if not 0 <= thread < self.threads() or self.status(thread) != "choosing":
            raise NotReady("the thread is not choosing")
        stack = self._crew.members[thread].stack
        statement, nodes = stack.pop()
        stack.append((statement[2] if second else statement[1], nodes))

    def raised(self, thread):
        """Returns the least graph of what broke a thread, or None; raises TooMany."""
        node = self._crew.members[thread].broken_by
        return None if node is None else self.graph(node)

    def add(self, graph):
        """Makes the nodes of the least graph and returns the number of its root; raises TooMany."""
        return self._crew.world.store.add(graph)

    def tell(self, first, second):
        """Makes two nodes equal from outside; raises Failed."""
        self._crew.world.store.unify(first, second)
        self._crew.start_due()

    def given(self, index):
        """Returns the node of a given variable."""
        return self._crew.world.given_nodes[index]

    def graph(self, node):
        """Returns the least graph of the tree that a node stands for; raises TooMany."""
        return self._crew.world.store.graph(node)

    def steps(self):
        """Returns the number of steps taken."""
        return self._steps

    def copy(self):
        """Returns a machine that behaves as this one, independent of it."""
        other = Machine(self._program)
        other._steps = self._steps
        other._crew = self._crew.copy()
        return other

    def outcome(self):
        """Returns the outcome; raises TooMany."""
        texts = outcome_texts([self.graph(node) for node in self._crew.world.given_nodes])
        return texts, outcome_counts([self.status(k) for k in range(self.threads())])
