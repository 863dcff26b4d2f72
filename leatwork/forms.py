"""The forms of statements, and which identifiers stand where in them (points 9 and 10)."""

from leatwork.graphs import MOST_NUMBER, MOST_PARTS, MOST_SIGNS, is_atom, is_integer_in

SIGNS = ("+", "-", "*", "<", "==")
MOST_ARGUMENTS = 7

# What stands behind the word of a statement. An inner statement knows what the statement makes, an outer one does not.
FORMS = {
    "skip": (),
    "seq": ("outer", "outer"),
    "local": ("made", "inner"),
    "bind": ("used", "used"),
    "int": ("used", "number"),
    "atom": ("used", "atom"),
    "tuple": ("used", "atom", "parts"),
    "proc": ("used", "params", "inner"),
    "if": ("used", "outer", "outer"),
    "case": ("used", "pattern", "inner", "outer"),
    "call": ("used", "arguments"),
    "op": ("sign", "used", "used", "used"),
    "thread": ("outer",),
    "need": ("used", "outer"),
    "try": ("outer", "made", "inner"),
    "raise": ("used",),
    "choose": ("outer", "outer"),
}


def is_identifier(value):
    """Tells whether it is an identifier, built-in ones included."""
    if not isinstance(value, str) or not 1 <= len(value) <= MOST_SIGNS:
        return False
    return value.isascii() and value.isalnum() and value[0].isupper()


def are_identifiers(value, low, high):
    """Tells whether it is a tuple of so many identifiers."""
    return isinstance(value, tuple) and low <= len(value) <= high and all([is_identifier(x) for x in value])


def are_different_identifiers(value, low, high):
    """Tells whether it is a tuple of so many different identifiers."""
    return are_identifiers(value, low, high) and len(set(value)) == len(value)


def _is_pattern(value):
    if not isinstance(value, tuple):
        return False
    if len(value) == 2:
        return (value[0] == "int" and _is_number(value[1])) or (value[0] == "atom" and is_atom(value[1]))
    if len(value) != 3 or value[0] != "tuple" or not is_atom(value[1]):
        return False
    return are_different_identifiers(value[2], 1, MOST_PARTS)


def _is_number(value):
    return is_integer_in(value, -MOST_NUMBER, MOST_NUMBER)


def _is_sign(value):
    return isinstance(value, str) and value in SIGNS


def _is_word(value):
    return is_atom(value)


def _are_parts(value):
    return are_identifiers(value, 1, MOST_PARTS)


def _are_params(value):
    return are_different_identifiers(value, 0, MOST_PARTS)


def _are_arguments(value):
    return are_identifiers(value, 0, MOST_ARGUMENTS)


def _is_anything(value):
    # Whoever asks for the form of a statement asks for those inside of it, too.
    return True


CHECKS = {
    "outer": _is_anything,
    "inner": _is_anything,
    "used": is_identifier,
    "made": is_identifier,
    "number": _is_number,
    "atom": _is_word,
    "parts": _are_parts,
    "params": _are_params,
    "pattern": _is_pattern,
    "arguments": _are_arguments,
    "sign": _is_sign,
}


def has_form(value):
    """Tells whether it has the form of a statement, apart from the statements inside of it; it may be any value."""
    if not isinstance(value, tuple) or not value or not isinstance(value[0], str) or value[0] not in FORMS:
        return False
    if len(value) != len(FORMS[value[0]]) + 1:
        return False
    return all([_is_field(role, field) for role, field in fields_of(value)])


def _is_field(role, value):
    check = CHECKS[role]
    return check(value)


def fields_of(statement):
    """Returns the list of the pairs of a role and what stands there, behind the word of a statement."""
    return list(zip(FORMS[statement[0]], statement[1:]))


def used_in(statement):
    """Returns the list of the identifiers that a statement uses, those inside of it apart."""
    found = []
    for role, field in fields_of(statement):
        if role == "used":
            found.append(field)
        elif role in ("parts", "arguments"):
            found.extend(field)
    return found


def made_in(statement):
    """Returns the tuple of the identifiers that a statement makes known."""
    for role, field in fields_of(statement):
        if role == "made":
            return (field,)
        if role == "params":
            return field
        if role == "pattern" and field[0] == "tuple":
            return field[2]
    return ()


def inside(statement):
    """Returns the list of the pairs of a statement directly inside of it and the tuple of what is made known there."""
    made = made_in(statement)
    found = []
    for role, field in fields_of(statement):
        if role == "outer":
            found.append((field, ()))
        elif role == "inner":
            found.append((field, made))
    return found


def with_more(known, keys, worths):
    """Returns a copy of a dict in which the keys have these worths."""
    result = dict(known)
    for key, worth in zip(keys, worths):
        result[key] = worth
    return result
