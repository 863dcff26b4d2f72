"""Machines in a chosen state, and short ways to ask them."""

from leatwork.errors import TooMany
from leatwork.machine import Machine
from leatwork.programs import check
from leatwork.texts import graph_text, read_graph
from tests.build import SKIP, call, local, seq

MACHINE_ATOMS = ("failure", "type", "arity", "range", "threads", "memory", "stack")


def make(statement, given="X Y Z", room=None, **values):
    """A machine of a good program whose given variables have the values of these texts, with so much room."""
    program = (tuple(given.split()), statement)
    check(program)
    machine = Machine(program)
    for name, text in values.items():
        bind(machine, program[0].index(name), text)
    if room is not None:
        fill(machine, room)
    return machine


def bind(machine, index, text):
    machine.tell(machine.given(index), machine.add(read_graph(text)))


def size(machine):
    """The number of nodes in the store, which has some room."""
    return machine.copy().add((("int", 1),))


def fill(machine, room):
    """Makes nodes that nothing uses until there is room for so many."""
    while room_of(machine) > room:
        many = min(400, room_of(machine) - room)
        machine.add(tuple(("tuple", "f", (k + 1,)) for k in range(many - 1)) + (("int", 1),))


def room_of(machine):
    """How many nodes can still be made."""
    try:
        return 2000 - size(machine)
    except TooMany:
        return 0


def text(machine, index):
    return graph_text(machine.graph(machine.given(index)))


def texts(machine, *indices):
    return [text(machine, index) for index in indices]


def statuses(machine):
    return [machine.status(k) for k in range(machine.threads())]


def raised(machine, thread=0):
    graph = machine.raised(thread)
    return None if graph is None else graph_text(graph)


def steps(machine, many, thread=0):
    for _ in range(many):
        machine.step(thread)
    return machine


def on_stack(many, *statements):
    """Calls itself, until this many frames are below the statements; L is a row of as many tuples."""
    body = ("case", "L", ("tuple", "c", ("T",)), seq(call("P", "T"), SKIP), seq(*statements))
    return local("P", ("proc", "P", ("L",), body), call("P", "L"))


def row(many):
    """The text of a row of so many tuples."""
    return "c(" * many + "a" + ")" * many


def until(machine, is_there, thread=0):
    """Takes steps of the thread until this holds."""
    while not is_there(machine):
        machine.step(thread)
    return machine
