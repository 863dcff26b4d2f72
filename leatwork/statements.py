"""What the statements do (points 13 and 15).

Each function takes the crew of a machine, the thread of it that makes the step, the statement, and the nodes of its
identifiers. It does the statement with them, and returns the answer (see world.py).
"""

from leatwork.forms import with_more
from leatwork.operations import operate
from leatwork.procedures import count_of, do_built_in
from leatwork.threads import Thread

MOST_FRAMES = 200


def _skip(crew, thread, statement, nodes):
    return None


def _put(crew, thread, frames):
    if len(thread.stack) + len(frames) > MOST_FRAMES:
        return crew.world.raising("stack")
    thread.stack.extend(frames)
    return None


def _seq(crew, thread, statement, nodes):
    _, first, second = statement
    return _put(crew, thread, [(second, nodes), (first, nodes)])


def _local(crew, thread, statement, nodes):
    _, x, body = statement
    if crew.world.lacks_room(1):
        return crew.world.raising("memory")
    return _put(crew, thread, [(body, with_more(nodes, [x], [crew.world.store.variable()]))])


def _bind(crew, thread, statement, nodes):
    _, x, y = statement
    return crew.world.unified(nodes[x], nodes[y])


def _constant(crew, thread, statement, nodes):
    kind, x, value = statement
    return crew.world.unified_with_new(nodes[x], (kind, value))


def _tuple(crew, thread, statement, nodes):
    _, x, label, ys = statement
    return crew.world.unified_with_new(nodes[x], ("tuple", label, tuple([nodes[y] for y in ys])))


def _proc(crew, thread, statement, nodes):
    _, x, ys, body = statement
    return crew.world.unified_with_name(nodes[x], "proc", (ys, body, nodes))


def _if(crew, thread, statement, nodes):
    _, x, first, second = statement
    waiting = crew.world.waiting((nodes[x],))
    if waiting is not None:
        return waiting
    value = crew.world.store.value(nodes[x])
    if value == ("atom", "true"):
        return _put(crew, thread, [(first, nodes)])
    if value == ("atom", "false"):
        return _put(crew, thread, [(second, nodes)])
    return crew.world.raising("type")


def _case(crew, thread, statement, nodes):
    _, x, pattern, first, second = statement
    waiting = crew.world.waiting((nodes[x],))
    if waiting is not None:
        return waiting
    value = crew.world.store.value(nodes[x])
    if pattern[0] != "tuple":
        return _put(crew, thread, [(first if value == pattern else second, nodes)])
    _, label, ys = pattern
    if value[0] == "tuple" and value[1] == label and len(value[2]) == len(ys):
        return _put(crew, thread, [(first, with_more(nodes, ys, value[2]))])
    return _put(crew, thread, [(second, nodes)])


def _call(crew, thread, statement, nodes):
    x = nodes[statement[1]]
    passed = [nodes[y] for y in statement[2]]
    waiting = crew.world.waiting((x,))
    if waiting is not None:
        return waiting
    built_in = crew.world.built_in_number(x)
    if built_in is not None:
        if count_of(built_in) != len(passed):
            return crew.world.raising("arity")
        return do_built_in(crew.world, built_in, passed)
    number = crew.world.number_of(x, "proc")
    if number is None:
        return crew.world.raising("type")
    ys, body, outside = crew.world.named["proc"][number]
    if len(ys) != len(passed):
        return crew.world.raising("arity")
    return _put(crew, thread, [(body, with_more(outside, ys, passed))])


def _op(crew, thread, statement, nodes):
    _, sign, x, y, z = statement
    return operate(crew.world, sign, nodes[x], nodes[y], nodes[z])


def _thread(crew, thread, statement, nodes):
    return crew.start(Thread([(statement[1], nodes)]))


def _need(crew, thread, statement, nodes):
    _, x, body = statement
    return crew.need(nodes[x], Thread([(body, nodes)]))


def _try(crew, thread, statement, nodes):
    _, body, x, caught = statement
    return _put(crew, thread, [(("handler", x, caught), nodes), (body, nodes)])


def _raise(crew, thread, statement, nodes):
    return ("raise", nodes[statement[1]])


ACTIONS = {
    "skip": _skip,
    "seq": _seq,
    "local": _local,
    "bind": _bind,
    "int": _constant,
    "atom": _constant,
    "tuple": _tuple,
    "proc": _proc,
    "if": _if,
    "case": _case,
    "call": _call,
    "op": _op,
    "thread": _thread,
    "need": _need,
    "try": _try,
    "raise": _raise,
    # A handler that is met on the way down has nothing to do any more.
    "handler": _skip,
}


def do_statement(crew, thread, statement, nodes):
    """Does a statement, which is none that chooses, and returns the answer."""
    action = ACTIONS[statement[0]]
    return action(crew, thread, statement, nodes)
