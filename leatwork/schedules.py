"""Runs of machines (points 18 and 19)."""

from leatwork.errors import TooMany
from leatwork.machine import Machine

MOST_STEPS = 3000


def picked(schedule, taken, many):
    """Returns the index of the one of so many that a schedule picks, when so many were taken before."""
    # Behind the schedule it is always the first one.
    return schedule[taken] % many if taken < len(schedule) else 0


def run(machine, schedule):
    """Runs the machine, which is changed by it, and returns the number of steps taken."""
    taken = 0
    ready = machine.ready()
    while ready and taken < MOST_STEPS:
        machine.step(ready[picked(schedule, taken, len(ready))])
        taken += 1
        ready = machine.ready()
    return taken


def outcome_by(program, schedule):
    """Returns the outcome of a program behind a run; raises TooMany."""
    machine = Machine(program)
    run(machine, schedule)
    return machine.outcome()


def all_outcomes(program, most):
    """Returns the ascending list of the outcomes of all runs; raises TooMany if more machines would be looked at."""
    outcomes = {}
    todo = [(Machine(program), ("begin",))]
    many = 1
    while todo:
        before, move = todo.pop()
        machine = _moved(before, move)
        moves = _moves(machine)
        if not moves:
            outcomes[machine.outcome()] = True
        elif machine.steps() < MOST_STEPS:
            # Each of these leads to one machine, so they can be counted before it is made.
            many += len(moves)
            if many > most:
                raise TooMany("there are too many machines to look at")
            todo.extend([(machine, following) for following in moves])
    return sorted(outcomes)


def _moves(machine):
    """Returns the list of the moves that a machine can make: a step, or a choice of one of two."""
    found = [("step", k) for k in machine.ready()]
    for k in range(machine.threads()):
        if machine.status(k) == "choosing":
            found.extend([("choose", k, False), ("choose", k, True)])
    return found


def _moved(machine, move):
    """Returns what becomes of a copy of the machine by a move."""
    result = machine.copy()
    if move[0] == "step":
        result.step(move[1])
    elif move[0] == "choose":
        result.choose(move[1], move[2])
    return result
