"""How programs become code (point 33).

Each function below takes the book in which the code is written, the draft of a unit, a statement, and a dict that
tells in which register the node of each identifier is. It puts the instructions of the statement into the draft.
"""

from leatwork.forms import used_in, with_more
from leatwork.graphs import parts_of
from leatwork.programs import BUILT_IN, uses

CASES = {"int": "caseint", "atom": "caseatom", "tuple": "casetuple"}


class Draft:
    """A unit that is being written."""

    def __init__(self, given):
        self.rows = []
        self._given = given
        self._registers = given
        self._built_in = {}

    def fresh(self):
        """Returns a register that was not used before."""
        self._registers += 1
        return self._registers - 1

    def put(self, row):
        """Puts an instruction behind the others."""
        self.rows.append(row)

    def hold(self):
        """Keeps a place for an instruction that is known only later, and returns its index."""
        self.rows.append(None)
        return len(self.rows) - 1

    def load(self, x):
        """Puts the instruction that gets a built-in procedure, and returns its register.

        The register is always the same one, but each use loads it, as it may be on a way where it has no node yet.
        """
        if x not in self._built_in:
            self._built_in[x] = self.fresh()
        self.put(("builtin", self._built_in[x], BUILT_IN.index(x)))
        return self._built_in[x]

    def unit(self):
        """Returns the unit."""
        return (self._given, self._registers, tuple(self.rows))


class Book:
    """The units that are written so far."""

    def __init__(self):
        self.units = []

    def write(self, given, statement):
        """Writes a unit for a statement whose identifiers the given registers have; returns its index."""
        number = len(self.units)
        self.units.append(None)
        draft = Draft(len(given))
        put_statement(self, draft, statement, with_more({}, given, list(range(len(given)))))
        draft.put(("end",))
        self.units[number] = draft.unit()
        return number


def compiled_units(program):
    """Returns the tuple of the units of a program."""
    given, statement = program
    book = Book()
    book.write(given, statement)
    return tuple(book.units)


def put_statement(book, draft, statement, known):
    """Puts the instructions of a statement."""
    used = used_in(statement)
    loaded = [x for x in BUILT_IN if x in used]
    there = with_more(known, loaded, [draft.load(x) for x in loaded])
    action = ACTIONS[statement[0]]
    action(book, draft, statement, there)


def _skip(book, draft, statement, known):
    # Nothing has to be done for it.
    pass


def _seq(book, draft, statement, known):
    _, first, second = statement
    put_statement(book, draft, first, known)
    put_statement(book, draft, second, known)


def _local(book, draft, statement, known):
    _, x, body = statement
    r = draft.fresh()
    draft.put(("new", r))
    put_statement(book, draft, body, with_more(known, [x], [r]))


def _bind(book, draft, statement, known):
    _, x, y = statement
    draft.put(("bind", known[x], known[y]))


def _constant(book, draft, statement, known):
    kind, x, value = statement
    draft.put((kind, known[x], value))


def _tuple(book, draft, statement, known):
    _, x, label, ys = statement
    draft.put(("tuple", known[x], label, _targets(ys, known)))


def _targets(xs, known):
    return tuple([known[x] for x in xs])


def _proc(book, draft, statement, known):
    _, x, ys, body = statement
    kept = [y for y in uses(body) if y not in ys]
    draft.put(("proc", known[x], book.write([*ys, *kept], body), len(ys), _targets(kept, known)))


def _put_ways(book, draft, first, closing, second):
    """Puts two ways, each a pair of a statement and what is known there, behind a place for what leads to them.

    The first one ends with the instructions of `closing`. Returns the place, and the index where the second one begins.
    """
    place = draft.hold()
    put_statement(book, draft, first[0], first[1])
    draft.rows.extend(closing)
    leap = draft.hold()
    other = len(draft.rows)
    put_statement(book, draft, second[0], second[1])
    draft.rows[leap] = ("jump", len(draft.rows))
    return place, other


def _if(book, draft, statement, known):
    _, x, first, second = statement
    place, other = _put_ways(book, draft, (first, known), [], (second, known))
    draft.rows[place] = ("if", known[x], other)


def _case(book, draft, statement, known):
    _, x, pattern, first, second = statement
    ys = parts_of(pattern)
    rs = tuple([draft.fresh() for _ in ys])
    place, other = _put_ways(book, draft, (first, with_more(known, ys, rs)), [], (second, known))
    what = (pattern[1], rs) if pattern[0] == "tuple" else (pattern[1],)
    draft.rows[place] = (CASES[pattern[0]], known[x], *what, other)


def _call(book, draft, statement, known):
    _, x, ys = statement
    draft.put(("call", known[x], _targets(ys, known)))


def _op(book, draft, statement, known):
    _, sign, x, y, z = statement
    draft.put(("op", sign, known[x], known[y], known[z]))


def _thread(book, draft, statement, known):
    kept = uses(statement[1])
    draft.put(("thread", book.write(kept, statement[1]), _targets(kept, known)))


def _need(book, draft, statement, known):
    _, x, body = statement
    kept = uses(body)
    draft.put(("need", known[x], book.write(kept, body), _targets(kept, known)))


def _try(book, draft, statement, known):
    _, body, x, caught = statement
    r = draft.fresh()
    place, other = _put_ways(book, draft, (body, known), [("untry",)], (caught, with_more(known, [x], [r])))
    draft.rows[place] = ("try", other, r)


def _raise(book, draft, statement, known):
    draft.put(("raise", known[statement[1]]))


def _choose(book, draft, statement, known):
    _, first, second = statement
    place, other = _put_ways(book, draft, (first, known), [], (second, known))
    draft.rows[place] = ("choose", other)


ACTIONS = {
    "skip": _skip,
    "seq": _seq,
    "local": _local,
    "bind": _bind,
    "int": _constant,
    "atom": _constant,
    "tuple": _tuple,
    "proc": _proc,
    "if": _if,
    "case": _case,
    "call": _call,
    "op": _op,
    "thread": _thread,
    "need": _need,
    "try": _try,
    "raise": _raise,
    "choose": _choose,
}
