"""The operations of the statement `op` (point 13)."""

from leatwork.graphs import MOST_NUMBER, look, parts_of


def operate(world, sign, x, y, z):
    """Makes x equal to the result of an operation in the world, and returns the answer."""
    if sign == "==":
        return _compare(world, x, y, z)
    waiting = world.waiting((y, z))
    if waiting is not None:
        return waiting
    first, second = world.store.value(y), world.store.value(z)
    if first[0] != "int" or second[0] != "int":
        return world.raising("type")
    if sign == "<":
        return world.unified_with_truth(x, first[1] < second[1])
    result = _calculated(sign, first[1], second[1])
    if not -MOST_NUMBER <= result <= MOST_NUMBER:
        return world.raising("range")
    return world.unified_with_new(x, ("int", result))


def _calculated(sign, first, second):
    if sign == "+":
        return first + second
    if sign == "-":
        return first - second
    return first * second


def _compare(world, x, y, z):
    pairs = [(world.store.representative(y), world.store.representative(z))]
    known = {pairs[0]: True}
    at = 0
    while at < len(pairs):
        waiting = world.waiting(pairs[at])
        if waiting is not None:
            return waiting
        first, second = world.store.value(pairs[at][0]), world.store.value(pairs[at][1])
        if look(first) != look(second):
            return world.unified_with_truth(x, False)
        for pair in zip(parts_of(first), parts_of(second)):
            if pair not in known:
                known[pair] = True
                pairs.append(pair)
        at += 1
    return world.unified_with_truth(x, True)
