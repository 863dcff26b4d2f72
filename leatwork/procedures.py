"""What the built-in procedures do (point 15).

Each function takes the world of a machine and the nodes that are passed, does this there, and returns the answer
(see world.py).
"""

from leatwork.graphs import parts_of


def _wait(world, x):
    return world.waiting((x,))


def _is_det(world, x, y):
    return world.unified_with_truth(y, world.store.is_bound(x))


def _new_cell(world, x, y):
    return world.unified_with_name(y, "cell", x)


def _exchange(world, c, x, y):
    waiting = world.waiting((c,))
    if waiting is not None:
        return waiting
    number = world.number_of(c, "cell")
    if number is None:
        return world.raising("type")
    answer = world.unified(x, world.named["cell"][number])
    if answer is None:
        world.named["cell"][number] = y
    return answer


def _new_port(world, x, y):
    return world.unified_with_name(y, "port", x)


def _send(world, p, x):
    waiting = world.waiting((p,))
    if waiting is not None:
        return waiting
    number = world.number_of(p, "port")
    if number is None:
        return world.raising("type")
    if world.lacks_room(2):
        return world.raising("memory")
    rest = world.store.variable()
    row = world.store.tuple_of("cons", [x, rest])
    answer = world.unified(world.named["port"][number], row)
    if answer is None:
        world.named["port"][number] = rest
    return answer


def _label(world, x, y):
    return _told_of(world, x, y, _label_of)


def _width(world, x, y):
    return _told_of(world, x, y, _width_of)


def _told_of(world, x, y, asked):
    waiting = world.waiting((x,))
    if waiting is not None:
        return waiting
    value = world.store.value(x)
    if value[0] not in ("tuple", "atom"):
        return world.raising("type")
    return world.unified_with_new(y, asked(value))


def _label_of(value):
    return ("atom", value[1])


def _width_of(value):
    return ("int", len(parts_of(value)))


def _part(world, x, n, y):
    waiting = world.waiting((x, n))
    if waiting is not None:
        return waiting
    whole, place = world.store.value(x), world.store.value(n)
    if whole[0] != "tuple" or place[0] != "int":
        return world.raising("type")
    if not 1 <= place[1] <= len(whole[2]):
        return world.raising("arity")
    return world.unified(y, whole[2][place[1] - 1])


# Both in the order of point 9.
COUNTS = (1, 2, 2, 3, 2, 2, 2, 2, 3)
ACTIONS = (_wait, _is_det, _new_cell, _exchange, _new_port, _send, _label, _width, _part)


def called(world, x, passed):
    """Does what the world itself does for a call of x, and returns a pair.

    It is the answer and None, or None and what has to be entered now: that which a procedure has that is not built in.
    """
    waiting = world.waiting((x,))
    if waiting is not None:
        return waiting, None
    number = world.built_in_number(x)
    if number is not None:
        return _done_built_in(world, number, passed), None
    number = world.number_of(x, "proc")
    if number is None:
        return world.raising("type"), None
    count, inside = world.named["proc"][number]
    if count != len(passed):
        return world.raising("arity"), None
    return None, inside


def _done_built_in(world, number, passed):
    if COUNTS[number] != len(passed):
        return world.raising("arity")
    action = ACTIONS[number]
    return action(world, *passed)
