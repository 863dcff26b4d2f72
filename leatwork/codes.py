"""Code (points 31 and 33)."""

from leatwork.compiling import compiled_units
from leatwork.forms import MOST_ARGUMENTS, SIGNS
from leatwork.graphs import MOST_NUMBER, MOST_PARTS, is_atom, is_integer_in
from leatwork.programs import BUILT_IN

MOST_UNITS = 250
MOST_REGISTERS = 2000
MOST_INSTRUCTIONS = 5000

# What stands behind the word of an instruction.
FORMS = {
    "new": ("target",),
    "builtin": ("target", "builtin"),
    "copy": ("target", "target"),
    "bind": ("target", "target"),
    "int": ("target", "number"),
    "atom": ("target", "atom"),
    "tuple": ("target", "atom", "parts"),
    "proc": ("target", "unit", "count", "targets"),
    "if": ("target", "place"),
    "caseint": ("target", "number", "place"),
    "caseatom": ("target", "atom", "place"),
    "casetuple": ("target", "atom", "different", "place"),
    "call": ("target", "arguments"),
    "op": ("sign", "target", "target", "target"),
    "thread": ("unit", "targets"),
    "need": ("target", "unit", "targets"),
    "try": ("place", "target"),
    "untry": (),
    "raise": ("target",),
    "choose": ("place",),
    "jump": ("place",),
    "end": (),
}


class Unit:
    """What the form of an instruction depends on: its unit, where it stands there, and the given of all units."""

    def __init__(self, givens, registers, many):
        self.givens = givens
        self.many = many
        self.registers = registers
        self.place = 0

    def has_target(self, value):
        """Tells whether it is one of the registers."""
        return is_integer_in(value, 0, self.registers - 1)

    def has_targets(self, value, low, high):
        """Tells whether it is a tuple of so many registers."""
        return isinstance(value, tuple) and low <= len(value) <= high and all([self.has_target(r) for r in value])


def _is_target(unit, value):
    return unit.has_target(value)


def _are_targets(unit, value):
    return unit.has_targets(value, 0, MOST_REGISTERS)


def _are_parts(unit, value):
    return unit.has_targets(value, 1, MOST_PARTS)


def _are_different(unit, value):
    return _are_parts(unit, value) and len(set(value)) == len(value)


def _are_arguments(unit, value):
    return unit.has_targets(value, 0, MOST_ARGUMENTS)


def _is_place(unit, value):
    # Jumps lead forward only.
    return is_integer_in(value, unit.place + 1, unit.many - 1)


def _is_unit(unit, value):
    return is_integer_in(value, 0, len(unit.givens) - 1)


def _is_built_in(unit, value):
    return is_integer_in(value, 0, len(BUILT_IN) - 1)


def _is_count(unit, value):
    return is_integer_in(value, 0, MOST_PARTS)


def _is_number(unit, value):
    return is_integer_in(value, -MOST_NUMBER, MOST_NUMBER)


def _is_word(unit, value):
    return is_atom(value)


def _is_sign(unit, value):
    return isinstance(value, str) and value in SIGNS


CHECKS = {
    "target": _is_target,
    "targets": _are_targets,
    "parts": _are_parts,
    "different": _are_different,
    "arguments": _are_arguments,
    "place": _is_place,
    "unit": _is_unit,
    "builtin": _is_built_in,
    "count": _is_count,
    "number": _is_number,
    "atom": _is_word,
    "sign": _is_sign,
}


def is_code(value):
    """Tells whether it is code; it may be any value."""
    if not isinstance(value, tuple) or not 1 <= len(value) <= MOST_UNITS:
        return False
    if not all([_has_head(unit) for unit in value]):
        return False
    givens = [unit[0] for unit in value]
    return all([_is_good(Unit(givens, registers, len(rows)), rows) for _, registers, rows in value])


def _has_head(value):
    """Tells whether it has the form of a unit, apart from its instructions."""
    if not isinstance(value, tuple) or len(value) != 3:
        return False
    given, registers, rows = value
    if not is_integer_in(registers, 0, MOST_REGISTERS) or not is_integer_in(given, 0, registers):
        return False
    return isinstance(rows, tuple) and 1 <= len(rows) <= MOST_INSTRUCTIONS


def _is_good(unit, rows):
    for place, row in enumerate(rows):
        unit.place = place
        if not _is_instruction(unit, row):
            return False
    return rows[-1] == ("end",)


def _is_instruction(unit, value):
    if not isinstance(value, tuple) or not value or not isinstance(value[0], str) or value[0] not in FORMS:
        return False
    roles = FORMS[value[0]]
    if len(value) != len(roles) + 1:
        return False
    if not all([_is_field(unit, role, field) for role, field in zip(roles, value[1:])]):
        return False
    return _is_passed_on(unit, value)


def _is_field(unit, role, value):
    check = CHECKS[role]
    return check(unit, value)


def _is_passed_on(unit, row):
    """Tells whether an instruction that names a unit gives it as many nodes as it has to."""
    if row[0] == "proc":
        return row[3] + len(row[4]) == unit.givens[row[2]]
    if row[0] in ("thread", "need"):
        return len(row[-1]) == unit.givens[row[-2]]
    return True


def compiled(program):
    """Returns code that does the same as the program."""
    return compiled_units(program)
