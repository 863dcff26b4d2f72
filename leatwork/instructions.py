"""What the instructions do (point 32).

Each function takes the crew of a code machine, the thread of it that makes the step, its topmost activation, which is
behind the instruction already, and the instruction. It does the instruction, and returns the answer (see world.py).
"""

from leatwork.activations import Activation, CodeThread
from leatwork.graphs import look, parts_of
from leatwork.operations import operate
from leatwork.procedures import called
from leatwork.world import has_to_wait

MOST_ACTIVATIONS = 200
# The kind of pattern of each case.
PATTERNS = {"caseint": "int", "caseatom": "atom", "casetuple": "tuple"}


def _nodes_of(active, rs):
    return [active.nodes[r] for r in rs]


def _new(crew, thread, active, row):
    if crew.world.lacks_room(1):
        return crew.world.raising("memory")
    active.nodes[row[1]] = crew.world.store.variable()
    return None


def _built_in(crew, thread, active, row):
    _, r, n = row
    active.nodes[r] = crew.world.built_in_nodes[n]
    return None


def _copy(crew, thread, active, row):
    _, r, s = row
    active.nodes[r] = active.nodes[s]
    return None


def _bind(crew, thread, active, row):
    _, r, s = row
    return crew.world.unified(active.nodes[r], active.nodes[s])


def _constant(crew, thread, active, row):
    kind, r, value = row
    return crew.world.unified_with_new(active.nodes[r], (kind, value))


def _tuple(crew, thread, active, row):
    _, r, label, rs = row
    return crew.world.unified_with_new(active.nodes[r], ("tuple", label, tuple(_nodes_of(active, rs))))


def _proc(crew, thread, active, row):
    _, r, u, count, rs = row
    return crew.world.unified_with_name(active.nodes[r], "proc", (count, (u, tuple(_nodes_of(active, rs)))))


def _if(crew, thread, active, row):
    _, r, k = row
    answer, truth = crew.world.truth_of(active.nodes[r])
    if answer is None and not truth:
        active.place = k
    return answer


def _case(crew, thread, active, row):
    pattern = (PATTERNS[row[0]], *row[2:-1])
    node = active.nodes[row[1]]
    waiting = crew.world.waiting((node,))
    if waiting is not None:
        return waiting
    value = crew.world.store.value(node)
    if look(value) != look(pattern):
        active.place = row[-1]
        return None
    for r, part in zip(parts_of(pattern), parts_of(value)):
        active.nodes[r] = part
    return None


def _call(crew, thread, active, row):
    passed = _nodes_of(active, row[2])
    answer, inside = called(crew.world, active.nodes[row[1]], passed)
    if inside is None:
        return answer
    if len(thread.stack) >= MOST_ACTIVATIONS:
        return crew.world.raising("stack")
    u, nodes = inside
    thread.stack.append(Activation(active.code, u, [*passed, *nodes]))
    return None


def _op(crew, thread, active, row):
    _, sign, r, s, t = row
    return operate(crew.world, sign, active.nodes[r], active.nodes[s], active.nodes[t])


def _begun(active, u, rs):
    return CodeThread([Activation(active.code, u, _nodes_of(active, rs))])


def _thread(crew, thread, active, row):
    _, u, rs = row
    return crew.start(_begun(active, u, rs))


def _need(crew, thread, active, row):
    _, r, u, rs = row
    return crew.need(active.nodes[r], _begun(active, u, rs))


def _try(crew, thread, active, row):
    _, k, r = row
    active.handlers.append((k, r))
    return None


def _untry(crew, thread, active, row):
    active.handlers.pop()
    return None


def _raise(crew, thread, active, row):
    return ("raise", active.nodes[row[1]])


def _jump(crew, thread, active, row):
    active.place = row[1]
    return None


def _end(crew, thread, active, row):
    thread.stack.pop()
    return None


ACTIONS = {
    "new": _new,
    "builtin": _built_in,
    "copy": _copy,
    "bind": _bind,
    "int": _constant,
    "atom": _constant,
    "tuple": _tuple,
    "proc": _proc,
    "if": _if,
    "caseint": _case,
    "caseatom": _case,
    "casetuple": _case,
    "call": _call,
    "op": _op,
    "thread": _thread,
    "need": _need,
    "try": _try,
    "untry": _untry,
    "raise": _raise,
    "jump": _jump,
    "end": _end,
}


def do_instruction(crew, thread):
    """Does the next instruction of a thread, which is none that chooses, and returns the answer."""
    active = thread.stack[-1]
    row = active.instruction()
    active.place += 1
    action = ACTIONS[row[0]]
    answer = action(crew, thread, active, row)
    if has_to_wait(answer):
        active.place -= 1
    return answer
