"""Short ways to write programs for the tests."""

SKIP = ("skip",)


def seq(*statements):
    """The statements one after the other."""
    if len(statements) == 1:
        return statements[0]
    return ("seq", statements[0], seq(*statements[1:]))


def evenly(statements):
    """The same, but nested as little as possible."""
    if len(statements) == 1:
        return statements[0]
    half = len(statements) // 2
    return ("seq", evenly(statements[:half]), evenly(statements[half:]))


def local(names, *statements):
    """New variables, with one space between their names, and then the statements."""
    found = seq(*statements)
    for name in names.split()[::-1]:
        found = ("local", name, found)
    return found


def call(name, *arguments):
    return ("call", name, arguments)


def op(sign, x, y, z):
    return ("op", sign, x, y, z)


def deep(many, statement=SKIP, word="thread"):
    """A statement that is nested this deep, counting its own as 1 deep."""
    for _ in range(many - 1):
        statement = (word, statement)
    return statement
