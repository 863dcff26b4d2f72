"""Goes through all ways through a unit of code: which registers have a node there, and which handlers are put."""


def reads(row):
    """The registers that an instruction reads."""
    word, *rest = row
    if word in ("copy",):
        return [rest[1]]
    if word == "bind":
        return rest
    if word in ("int", "atom", "if", "caseint", "caseatom", "casetuple", "raise"):
        return [rest[0]]
    if word == "tuple":
        return [rest[0], *rest[2]]
    if word == "proc":
        return [rest[0], *rest[3]]
    if word == "call":
        return [rest[0], *rest[1]]
    if word == "op":
        return rest[1:]
    if word == "thread":
        return list(rest[1])
    if word == "need":
        return [rest[0], *rest[2]]
    return []


def following(place, row, has, handlers):
    """What comes next: triples of an index, the registers that have a node, and the handlers."""
    word, *rest = row
    if word in ("new", "builtin", "copy"):
        return [(place + 1, has | {rest[0]}, handlers)]
    if word == "casetuple":
        return [(place + 1, has | set(rest[2]), handlers), (rest[3], has, handlers)]
    if word in ("if", "caseint", "caseatom", "choose"):
        return [(place + 1, has, handlers), (rest[-1], has, handlers)]
    if word == "jump":
        return [(rest[0], has, handlers)]
    if word == "try":
        return [(place + 1, has, handlers + ((rest[0], rest[1], has, handlers),))]
    if word == "untry":
        assert handlers, "no handler is there"
        return [(place + 1, has, handlers[:-1])]
    if word in ("raise", "end"):
        return []
    return [(place + 1, has, handlers)]


def check_unit(given, rows):
    """Asserts that no register is read without a node, and that untry takes away what try has put."""
    met = {}
    todo = [(0, frozenset(range(given)), ())]
    while todo:
        place, has, handlers = todo.pop()
        if place in met:
            # What is there on all ways; the handlers are the same on all.
            assert [h[:2] for h in met[place][1]] == [h[:2] for h in handlers], place
            if met[place][0] <= has:
                continue
            has = has & met[place][0]
        met[place] = has, handlers
        row = rows[place]
        for r in reads(row):
            assert r in has, (place, row)
        todo.extend(following(place, row, has, handlers))
        if handlers:
            # It may be raised here.
            k, r, before, outer = handlers[-1]
            todo.append((k, before | {r}, outer))
    return met
