"""What the statements do (points 13 and 15).

Each function takes the crew of a machine, the thread of it that makes the step, the statement, and the nodes of its
identifiers. It does the statement with them, and returns the answer (see world.py).
"""

from leatwork.forms import with_more
from leatwork.graphs import look, parts_of
from leatwork.operations import operate
from leatwork.procedures import called
from leatwork.threads import Thread
from leatwork.world import has_to_wait

MOST_FRAMES = 200


def _skip(crew, thread, statement, nodes):
    return None


def _put(crew, thread, frames):
    if len(thread.stack) + len(frames) > MOST_FRAMES:
        return crew.world.raising("stack")
    thread.stack.extend(frames)
    return None


def _seq(crew, thread, statement, nodes):
    _, first, second = statement
    return _put(crew, thread, [(second, nodes), (first, nodes)])


def _local(crew, thread, statement, nodes):
    _, x, body = statement
    if crew.world.lacks_room(1):
        return crew.world.raising("memory")
    return _put(crew, thread, [(body, with_more(nodes, [x], [crew.world.store.variable()]))])


def _bind(crew, thread, statement, nodes):
    _, x, y = statement
    return crew.world.unified(nodes[x], nodes[y])


def _constant(crew, thread, statement, nodes):
    kind, x, value = statement
    return crew.world.unified_with_new(nodes[x], (kind, value))


def _tuple(crew, thread, statement, nodes):
    _, x, label, ys = statement
    return crew.world.unified_with_new(nodes[x], ("tuple", label, tuple([nodes[y] for y in ys])))


def _proc(crew, thread, statement, nodes):
    _, x, ys, body = statement
    return crew.world.unified_with_name(nodes[x], "proc", (len(ys), (ys, body, nodes)))


def _if(crew, thread, statement, nodes):
    _, x, first, second = statement
    answer, truth = crew.world.truth_of(nodes[x])
    if answer is not None:
        return answer
    return _put(crew, thread, [(first if truth else second, nodes)])


def _case(crew, thread, statement, nodes):
    _, x, pattern, first, second = statement
    waiting = crew.world.waiting((nodes[x],))
    if waiting is not None:
        return waiting
    value = crew.world.store.value(nodes[x])
    if look(value) != look(pattern):
        return _put(crew, thread, [(second, nodes)])
    return _put(crew, thread, [(first, with_more(nodes, parts_of(pattern), parts_of(value)))])


def _call(crew, thread, statement, nodes):
    passed = [nodes[y] for y in statement[2]]
    answer, inside = called(crew.world, nodes[statement[1]], passed)
    if inside is None:
        return answer
    ys, body, around = inside
    return _put(crew, thread, [(body, with_more(around, ys, passed))])


def _op(crew, thread, statement, nodes):
    _, sign, x, y, z = statement
    return operate(crew.world, sign, nodes[x], nodes[y], nodes[z])


def _thread(crew, thread, statement, nodes):
    return crew.start(Thread([(statement[1], nodes)]))


def _need(crew, thread, statement, nodes):
    _, x, body = statement
    return crew.need(nodes[x], Thread([(body, nodes)]))


def _try(crew, thread, statement, nodes):
    _, body, x, caught = statement
    return _put(crew, thread, [(("handler", x, caught), nodes), (body, nodes)])


def _raise(crew, thread, statement, nodes):
    return ("raise", nodes[statement[1]])


ACTIONS = {
    "skip": _skip,
    "seq": _seq,
    "local": _local,
    "bind": _bind,
    "int": _constant,
    "atom": _constant,
    "tuple": _tuple,
    "proc": _proc,
    "if": _if,
    "case": _case,
    "call": _call,
    "op": _op,
    "thread": _thread,
    "need": _need,
    "try": _try,
    "raise": _raise,
    # A handler that is met on the way down has nothing to do any more.
    "handler": _skip,
}


def do_frame(crew, thread):
    """Takes the topmost frame of a thread away, which is none that chooses, does it, and returns the answer."""
    frame = thread.stack.pop()
    statement, nodes = frame
    action = ACTIONS[statement[0]]
    answer = action(crew, thread, statement, nodes)
    if has_to_wait(answer):
        thread.stack.append(frame)
    return answer
