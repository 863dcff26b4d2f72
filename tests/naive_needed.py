"""What is needed of the plainest machine: word by word what point 34 says.

Nothing here imports the program.
"""


def uses(statement):
    """The set of the identifiers that are used in a statement and not made known inside of it."""
    word, *rest = statement
    if word == "skip":
        return set()
    if word in ("seq", "choose"):
        return uses(rest[0]) | uses(rest[1])
    if word == "local":
        return uses(rest[1]) - {rest[0]}
    if word == "bind":
        return {rest[0], rest[1]}
    if word in ("int", "atom", "raise"):
        return {rest[0]}
    if word == "tuple":
        return {rest[0], *rest[2]}
    if word == "proc":
        return {rest[0]} | uses(rest[2]) - set(rest[1])
    if word == "if":
        return {rest[0]} | uses(rest[1]) | uses(rest[2])
    if word == "case":
        made = rest[1][2] if rest[1][0] == "tuple" else ()
        return {rest[0]} | uses(rest[2]) - set(made) | uses(rest[3])
    if word == "call":
        return {rest[0], *rest[1]}
    if word == "op":
        return set(rest[1:])
    if word == "thread":
        return uses(rest[0])
    if word == "need":
        return {rest[0]} | uses(rest[1])
    assert word == "try"
    return uses(rest[0]) | uses(rest[2]) - {rest[1]}


def needed(plain):
    """The ascending list of the needed representatives of a plain machine."""
    built_in = ["Wait", "IsDet", "NewCell", "Exchange", "NewPort", "Send", "Label", "Width", "Part"]

    def of(names, nodes):
        return {nodes[x] for x in names if x not in built_in}

    found = set(plain.given) | set(range(len(plain.given), len(plain.given) + 16))
    for thread in plain.threads:
        for frame in thread["stack"]:
            if frame[0] == "handler":
                found |= of(uses(frame[2]) - {frame[1]}, frame[3])
            else:
                found |= of(uses(frame[0]), frame[1])
        if thread["broken"] is not None:
            found.add(thread["broken"])
    while True:
        more = {plain.store.representative(k) for k in found}
        for k in found:
            node = plain.store.nodes[k]
            if node[0] == "tuple":
                more |= set(node[2])
            elif node[:2] == ("name", "proc"):
                ys, body, nodes = plain.procedures[node[2]]
                more |= of(uses(body) - set(ys), nodes)
            elif node[:2] == ("name", "cell"):
                more.add(plain.cells[node[2]])
            elif node[:2] == ("name", "port"):
                more.add(plain.ports[node[2]])
            more |= {j for x, s, nodes in plain.triggers
                     if plain.store.representative(x) == plain.store.representative(k) for j in of(uses(s), nodes)}
        if more <= found:
            return sorted({plain.store.representative(k) for k in found})
        found |= more
