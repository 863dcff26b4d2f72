"""The machine (points 12 to 17)."""

from leatwork.forms import with_more
from leatwork.programs import BUILT_IN
from leatwork.statements import do_frame
from leatwork.threads import Crew, Thread
from leatwork.world import World

MOST_THREADS = 60


class Machine:
    """A machine that interprets a program."""

    def __init__(self, program):
        given, statement = program
        world = World()
        world.begin(len(given))
        nodes = with_more({}, given + BUILT_IN, world.given_nodes + world.built_in_nodes)
        self.crew = Crew(world, MOST_THREADS)
        self.crew.start(Thread([(statement, nodes)]))
        self._program = program

    def threads(self):
        """Returns the number of threads."""
        return len(self.crew.members)

    def status(self, thread):
        """Returns the status of a thread."""
        return self.crew.status(thread)

    def ready(self):
        """Returns the ascending list of the ready threads."""
        return self.crew.with_status("ready")

    def waits_for(self, thread):
        """Returns the representative that a waiting thread waits for, or None."""
        return self.crew.waits_for(thread)

    def step(self, thread):
        """Takes a step of a thread; raises NotReady."""
        stepping = self.crew.begin_step(thread)
        self.crew.end_step(stepping, do_frame(self.crew, stepping))

    def choose(self, thread, second):
        """Lets a choosing thread choose; raises NotReady."""
        stack = self.crew.choosing(thread).stack
        statement, nodes = stack.pop()
        stack.append((statement[2] if second else statement[1], nodes))

    def raised(self, thread):
        """Returns the least graph of what broke a thread, or None; raises TooMany."""
        return self.crew.raised(thread)

    def add(self, graph):
        """Makes the nodes of the least graph and returns the number of its root; raises TooMany."""
        return self.crew.world.store.add(graph)

    def tell(self, first, second):
        """Makes two nodes equal from outside; raises Failed."""
        self.crew.tell(first, second)

    def given(self, index):
        """Returns the node of a given variable."""
        return self.crew.world.given_nodes[index]

    def graph(self, node):
        """Returns the least graph of the tree that a node stands for; raises TooMany."""
        return self.crew.world.store.graph(node)

    def steps(self):
        """Returns the number of steps taken."""
        return self.crew.taken

    def copy(self):
        """Returns a machine that behaves as this one, independent of it."""
        return self.with_crew(self.crew.copy())

    def with_crew(self, crew):
        """Returns a machine of the same program with this crew."""
        other = Machine(self._program)
        other.crew = crew
        return other

    def outcome(self):
        """Returns the outcome; raises TooMany."""
        return self.crew.outcome()
