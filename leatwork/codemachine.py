"""The code machine (point 32)."""

from leatwork.activations import Activation, CodeThread
from leatwork.instructions import do_instruction
from leatwork.machine import MOST_THREADS
from leatwork.threads import Crew
from leatwork.world import World


class CodeMachine:
    """A machine that does code."""

    def __init__(self, code):
        world = World()
        world.begin(code[0][0])
        self.crew = Crew(world, MOST_THREADS)
        self.crew.start(CodeThread([Activation(code, 0, world.given_nodes)]))
        self._code = code

    def threads(self):
        """Returns the number of threads."""
        return len(self.crew.members)

    def status(self, thread):
        """Returns the status of a thread."""
        return self.crew.status(thread)

    def ready(self):
        """Returns the ascending list of the ready threads."""
        return self.crew.with_status("ready")

    def waits_for(self, thread):
        """Returns the representative that a waiting thread waits for, or None."""
        return self.crew.waits_for(thread)

    def step(self, thread):
        """Takes a step of a thread; raises NotReady."""
        stepping = self.crew.begin_step(thread)
        self.crew.end_step(stepping, do_instruction(self.crew, stepping))

    def choose(self, thread, second):
        """Lets a choosing thread choose; raises NotReady."""
        active = self.crew.choosing(thread).stack[-1]
        _, k = active.instruction()
        active.place = k if second else active.place + 1

    def raised(self, thread):
        """Returns the least graph of what broke a thread, or None; raises TooMany."""
        return self.crew.raised(thread)

    def add(self, graph):
        """Makes the nodes of the least graph and returns the number of its root; raises TooMany."""
        return self.crew.world.store.add(graph)

    def tell(self, first, second):
        """Makes two nodes equal from outside; raises Failed."""
        self.crew.tell(first, second)

    def given(self, index):
        """Returns the node of a given variable of unit 0."""
        return self.crew.world.given_nodes[index]

    def graph(self, node):
        """Returns the least graph of the tree that a node stands for; raises TooMany."""
        return self.crew.world.store.graph(node)

    def steps(self):
        """Returns the number of steps taken."""
        return self.crew.taken

    def copy(self):
        """Returns a machine that behaves as this one, independent of it."""
        other = CodeMachine(self._code)
        other.crew = self.crew.copy()
        return other

    def outcome(self):
        """Returns the outcome; raises TooMany."""
        return self.crew.outcome()
