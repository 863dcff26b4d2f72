"""Sites that share variables (points 39 to 41).

Each site sends each other one whatever is told there. So all sites have all equations when no message is on its way.
"""

from leatwork.errors import Failed, TooMany
from leatwork.graphs import least, with_parts
from leatwork.mail import FAILURE, Mail
from leatwork.schedules import picked
from leatwork.store import Store

MOST_MAIL = 5000
MOST_SHARED = 100


class Site:
    """What a site has: a store, in which a shared variable is the node with its number, and those that it knows."""

    def __init__(self):
        self.has_failed = False
        # The keys are the shared variables that the site knows.
        self.known = {}
        self._store = Store()
        # They are there from the beginning on, so that to know one needs no room.
        for _ in range(MOST_SHARED):
            self._store.variable()

    def fail(self):
        """Lets the site fail."""
        self.has_failed = True

    def know(self, x):
        """Lets the site know a shared variable."""
        self.known[x] = True

    def learn(self, x, graph):
        """Makes a shared variable equal to the tree of a least graph; raises TooMany or Failed."""
        made = [k for k, node in enumerate(graph) if node[0] != "var"]
        numbers = {k: node[1] for k, node in enumerate(graph) if node[0] == "var"}
        for y in [x, *list(numbers.values())]:
            self.know(y)
        begin = self._store.size()
        for place, k in enumerate(made):
            numbers[k] = begin + place
        for k in made:
            self._store.make(with_parts(graph[k], numbers))
        self._store.unify(x, numbers[0])

    def value(self, x):
        """Returns the least graph of what the site says of a shared variable; raises TooMany."""
        least_known = {}
        for y in sorted(self.known):
            least_known.setdefault(self._store.representative(y), y)
        graph = self._store.graph(x)
        return tuple([("var", least_known[node[1]]) if node[0] == "var" else node for node in graph])

    def copy(self):
        """Returns a site that behaves as this one, independent of it."""
        other = Site()
        other.has_failed = self.has_failed
        other.known = dict(self.known)
        other._store = self._store.copy()
        return other


class Net:
    """Sites, and the messages on their way between them: equations, and the word that a site has failed."""

    def __init__(self, sites):
        self._sites = [Site() for _ in range(sites)]
        self._mail = Mail(sites)
        self._made = 0

    def make(self, site):
        """Returns the number of a new shared variable that the site knows; raises Failed or TooMany."""
        self._check(site)
        if self._made == MOST_SHARED:
            raise TooMany("there are too many shared variables")
        self._made += 1
        self._sites[site].know(self._made - 1)
        return self._made - 1

    def know(self, site, x):
        """Lets the site know a shared variable; raises Failed."""
        self._check(site)
        self._sites[site].know(x)

    def tell(self, site, x, graph):
        """Makes a shared variable equal to a tree, at a site; raises Failed."""
        self._check(site)
        equation = (x, least(graph))
        self._learn(site, equation)
        self._check(site)
        self._mail.send(site, equation)

    def _check(self, site):
        if self.failed(site):
            raise Failed("the site has failed")

    def _learn(self, site, equation):
        x, graph = equation
        try:
            self._sites[site].learn(x, graph)
        except (Failed, TooMany):
            self._fail(site)

    def _fail(self, site):
        self._sites[site].fail()
        self._mail.send(site, FAILURE)

    def pending(self):
        """Returns the ascending list of the tuples of a sender, a receiver and how many messages are on their way."""
        return self._mail.pending()

    def deliver(self, sender, receiver):
        """Delivers the oldest message from one site to another one; raises NotReady."""
        message = self._mail.take(sender, receiver)
        if self.failed(receiver):
            return
        if message == FAILURE:
            self._fail(receiver)
        else:
            self._learn(receiver, message)

    def settle(self, schedule):
        """Delivers messages as long as there are some, and returns the number of deliveries; raises TooMany."""
        taken = 0
        pairs = self._mail.pairs()
        while pairs:
            if taken == MOST_MAIL:
                raise TooMany("there are still messages on their way")
            sender, receiver = pairs[picked(schedule, taken, len(pairs))]
            self.deliver(sender, receiver)
            taken += 1
            pairs = self._mail.pairs()
        return taken

    def knows(self, site, x):
        """Tells whether the site knows a shared variable."""
        return x in self._sites[site].known

    def value(self, site, x):
        """Returns the least graph of what the site says of a shared variable that it knows; raises TooMany."""
        return self._sites[site].value(x)

    def failed(self, site):
        """Tells whether the site has failed."""
        return self._sites[site].has_failed

    def copy(self):
        """Returns a net that behaves as this one, independent of it."""
        other = Net(len(self._sites))
        other._sites = [site.copy() for site in self._sites]
        other._mail = self._mail.copy()
        other._made = self._made
        return other
