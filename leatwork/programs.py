"""Programs (points 9 to 11)."""

from leatwork.errors import BadProgram
from leatwork.forms import are_different_identifiers, fields_of, has_form, inside, made_in, used_in, with_more

BUILT_IN = ("Wait", "IsDet", "NewCell", "Exchange", "NewPort", "Send", "Label", "Width", "Part")
MOST_GIVEN = 12
MOST_DEPTH = 30
MOST_STATEMENTS = 200
# Through these a program can observe in which order things happen.
NOT_DECLARATIVE = ("IsDet", "NewCell", "Exchange", "NewPort", "Send")


def check(program):
    """Raises BadProgram if the program, which may be any value, is not good."""
    if not isinstance(program, tuple) or len(program) != 2:
        raise BadProgram("a program is a pair")
    given, statement = program
    if not are_different_identifiers(given, 0, MOST_GIVEN) or _has_built_in(given):
        raise BadProgram("these are no given variables")
    if not _is_good(statement, given + BUILT_IN):
        raise BadProgram("this is no good statement")


def _has_built_in(identifiers):
    return any([x in BUILT_IN for x in identifiers])


def _is_good(statement, known):
    todo = [(statement, known, 1)]
    many = 0
    while todo:
        part, here, depth = todo.pop()
        many += 1
        # One statement may stand at many places, so what is too large is given up at once.
        if many > MOST_STATEMENTS or depth > MOST_DEPTH:
            return False
        if not has_form(part) or _has_built_in(made_in(part)) or not all([x in here for x in used_in(part)]):
            return False
        todo.extend([(inner, here + made, depth + 1) for inner, made in inside(part)])
    return True


def uses(statement):
    """Returns the ascending list of the identifiers that a statement uses from outside, without built-in ones."""
    found = {}
    todo = [(statement, BUILT_IN)]
    while todo:
        part, here = todo.pop()
        for x in used_in(part):
            if x not in here:
                found[x] = True
        todo.extend([(inner, here + made) for inner, made in inside(part)])
    return sorted(found)


def is_declarative(program):
    """Tells whether a program is declarative."""
    todo = [program[1]]
    while todo:
        part = todo.pop()
        if part[0] in ("try", "choose") or any([x in NOT_DECLARATIVE for x in used_in(part)]):
            return False
        todo.extend([inner for inner, _ in inside(part)])
    return True


def renamed(program, names):
    """Returns the program with other names for what its statements make; raises BadProgram."""
    given, statement = program
    result = (given, _renamed(statement, {}, names))
    check(result)
    if not _stand_alike(program, result):
        raise BadProgram("an identifier would stand for something else")
    return result


def _renamed(statement, known, names):
    """Returns a statement with the names of `known` for what is made around it, and of `names` for what it makes."""
    made = made_in(statement)
    there = with_more(known, made, [names.get(x, x) for x in made])
    row = [statement[0]]
    for role, field in fields_of(statement):
        if role == "outer":
            row.append(_renamed(field, known, names))
        elif role == "inner":
            row.append(_renamed(field, there, names))
        elif role in ("made", "params", "pattern"):
            row.append(_renamed_field(role, field, there))
        else:
            row.append(_renamed_field(role, field, known))
    return tuple(row)


def _renamed_field(role, field, known):
    if role in ("used", "made"):
        return known.get(field, field)
    if role in ("parts", "arguments", "params"):
        return tuple([known.get(x, x) for x in field])
    if role == "pattern" and field[0] == "tuple":
        return ("tuple", field[1], tuple([known[x] for x in field[2]]))
    return field


def _stand_alike(program, other):
    """Tells whether the identifiers of two programs of one form stand for the same at each place."""
    outside = {x: x for x in program[0] + BUILT_IN}
    todo = [(program[1], other[1], outside, outside, 1)]
    while todo:
        first, second, here, there, depth = todo.pop()
        if [here[x] for x in used_in(first)] != [there[x] for x in used_in(second)]:
            return False
        for (one, made), (twin, made_there) in zip(inside(first), inside(second)):
            # No two statements around a place are equally deep.
            marks = [(depth, k) for k in range(len(made))]
            todo.append((one, twin, with_more(here, made, marks), with_more(there, made_there, marks), depth + 1))
    return True
