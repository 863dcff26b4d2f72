"""What of a machine is needed, and a machine that has nothing else (points 34 and 35)."""

from leatwork.graphs import parts_of, with_parts
from leatwork.programs import BUILT_IN, uses
from leatwork.store import Store
from leatwork.threads import Thread
from leatwork.world import World


class Move:
    """Where the nodes of a store are in a new one, which has the needed representatives only."""

    def __init__(self, store, kept):
        self.store = store
        self.kept = kept
        self._numbers = {node: k for k, node in enumerate(kept)}

    def has(self, node):
        """Tells whether the node is needed."""
        return self.store.representative(node) in self._numbers

    def of(self, node):
        """Returns the number of a needed node in the new store."""
        return self._numbers[self.store.representative(node)]

    def nodes_for(self, xs, nodes):
        """Returns the nodes of the identifiers and of the built-in procedures in the new store, as a dict."""
        return {x: self.of(nodes[x]) for x in [*xs, *BUILT_IN]}

    def new_store(self):
        """Returns the new store."""
        result = Store()
        for node in self.kept:
            value = self.store.value(node)
            if value[0] == "var":
                result.variable()
            else:
                result.make(with_parts(value, self._numbers))
        return result


def node_count(machine):
    """Returns the number of nodes of the store of a machine."""
    return machine.crew.world.store.size()


def needed(machine):
    """Returns the ascending list of the needed representatives."""
    crew = machine.crew
    store = crew.world.store
    triggered = {}
    for x, thread in crew.triggers:
        triggered.setdefault(store.representative(x), []).extend(_used_by(thread))
    found = {}
    todo = _roots(crew)
    while todo:
        node = store.representative(todo.pop())
        if node not in found:
            found[node] = True
            todo.extend(_led_to(crew.world, node))
            todo.extend(triggered.get(node, []))
    return sorted(found)


def _roots(crew):
    """Returns the list of the nodes that are needed whatever else is."""
    world = crew.world
    found = [*world.given_nodes, *world.built_in_nodes, *list(world.raised_nodes.values())]
    for thread in crew.members:
        found.extend(_used_by(thread))
        if thread.broken_by is not None:
            found.append(thread.broken_by)
    return found


def _used_by(thread):
    """Returns the list of the nodes that the frames of a thread use."""
    return [nodes[x] for statement, nodes in thread.stack for x in _used_in_frame(statement)]


def _used_in_frame(statement):
    if statement[0] != "handler":
        return uses(statement)
    _, x, caught = statement
    return _used_inside((x,), caught)


def _used_inside(made, statement):
    """Returns the list of what a statement uses, apart from what is made known around it."""
    return [x for x in uses(statement) if x not in made]


def _led_to(world, node):
    """Returns the list of the nodes that are needed if this one is."""
    value = world.store.value(node)
    if value[0] != "name":
        return list(parts_of(value))
    word = value[1]
    number = world.number_of(node, word) if word in world.named else None
    if number is None:
        return []
    if word != "proc":
        return [world.named[word][number]]
    _, (ys, body, nodes) = world.named[word][number]
    return [nodes[x] for x in _used_inside(ys, body)]


def collected(machine):
    """Returns a machine in the same state that has the needed representatives only."""
    crew = machine.crew
    move = Move(crew.world.store, needed(machine))
    result = crew.copy()
    result.world = _moved_world(crew.world, move)
    result.members = [_moved_thread(thread, move) for thread in crew.members]
    # Nothing can bind a variable that is not needed, or wait for it.
    result.triggers = [(move.of(x), _moved_thread(thread, move)) for x, thread in crew.triggers if move.has(x)]
    return machine.with_crew(result)


def _moved_world(world, move):
    result = World()
    result.store = move.new_store()
    result.given_nodes = [move.of(node) for node in world.given_nodes]
    result.built_in_nodes = [move.of(node) for node in world.built_in_nodes]
    result.raised_nodes = {word: move.of(node) for word, node in world.raised_nodes.items()}
    result.named = {word: _moved_named(world, word, move) for word in world.named}
    return result


def _moved_named(world, word, move):
    """Returns what the new world has for the procedures, cells or ports, with None for those that are not needed."""
    rows = [None] * len(world.named[word])
    for node in move.kept:
        number = world.number_of(node, word)
        if number is not None:
            rows[number] = _moved_entry(word, world.named[word][number], move)
    return rows


def _moved_entry(word, what, move):
    if word != "proc":
        return move.of(what)
    count, (ys, body, nodes) = what
    return count, (ys, body, move.nodes_for(_used_inside(ys, body), nodes))


def _moved_thread(thread, move):
    frames = [(statement, move.nodes_for(_used_in_frame(statement), nodes)) for statement, nodes in thread.stack]
    result = Thread(frames)
    # What a thread waits for is needed, unless it is bound already.
    if thread.waits is not None and move.has(thread.waits):
        result.waits = move.of(thread.waits)
    if thread.broken_by is not None:
        result.broken_by = move.of(thread.broken_by)
    return result
