"""The search for all solutions of a program (points 37 and 38)."""

from leatwork.errors import TooMany
from leatwork.spaces import Space

MOST_KNOTS = 200


def solutions(program):
    """Returns the list of the pairs of a path and the outcome of each solution, in order; raises TooMany."""
    return [(path, space.outcome()) for path, space, status in _knots(program, None) if status == "done"]


def first_solution(program):
    """Returns the first pair of `solutions`, or None; raises TooMany if there are too many nodes up to it."""
    path, space, status = _knots(program, "done")[-1]
    return (path, space.outcome()) if status == "done" else None


def replayed(program, path):
    """Returns the pair of the status and the outcome of the node with the path, or None if there is none."""
    space = Space(program)
    for second in path:
        if space.ask() != "choosing":
            return None
        space.commit(second)
    return space.ask(), space.outcome()


def shape(program):
    """Returns the string of the search tree; raises TooMany."""
    pieces = []
    for path, _, status in _knots(program, None):
        if status == "choosing":
            pieces.append("(")
        else:
            pieces.append(status[0] + ")" * _many_ended(path))
    return "".join(pieces)


def _many_ended(path):
    """Returns the number of nodes that have the leaf with the path as the last one below them."""
    many = 0
    while many < len(path) and path[-1 - many]:
        many += 1
    return many


def _knots(program, wanted):
    """Returns the list of the nodes of the search tree, in order, up to the first one with the wanted status, if any.

    Each is a tuple of its path, its space and its status. Raises TooMany if there are more than MOST_KNOTS.
    """
    found = []
    todo = [((), Space(program))]
    while todo:
        if len(found) == MOST_KNOTS:
            raise TooMany("the search tree has too many nodes")
        path, space = todo.pop()
        status = space.ask()
        found.append((path, space, status))
        if status == wanted:
            break
        if status == "choosing":
            todo.extend([(path + (second,), _chosen(space, second)) for second in (True, False)])
    return found


def _chosen(space, second):
    """Returns a copy of a space that has chosen."""
    result = space.copy()
    result.commit(second)
    return result
