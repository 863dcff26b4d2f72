"""Traces: what caused what in a run (points 44 and 45)."""

from leatwork.machine import Machine
from leatwork.schedules import MOST_STEPS, picked


def trace(program, schedule):
    """Returns the list of the events of a run."""
    machine = Machine(program)
    events = []
    ready = machine.ready()
    while ready and len(events) < MOST_STEPS:
        events.append(_stepped(machine, ready[picked(schedule, len(events), len(ready))]))
        ready = machine.ready()
    return events


def replay(program, events):
    """Takes the steps of the events as long as they are the same, and returns the number of these events."""
    machine = Machine(program)
    many = 0
    for event in events:
        if event[0] not in machine.ready() or _stepped(machine, event[0]) != event:
            break
        many += 1
    return many


def _stepped(machine, thread):
    """Takes a step of a ready thread, which changes the machine, and returns its event."""
    before = machine.ready()
    many = machine.threads()
    machine.step(thread)
    woke = [k for k in machine.ready() if k < many and k not in before]
    return thread, machine.threads() - many, tuple(woke), machine.status(thread)


def causes(events, index):
    """Returns the ascending list of the indices of the causes of an event."""
    direct = _direct_causes(events)
    found = {}
    todo = [index]
    while todo:
        k = todo.pop()
        if k not in found:
            found[k] = True
            todo.extend(direct[k])
    return sorted(found)


def longest(events):
    """Returns the greatest number of events in a chain of direct causes."""
    lengths = []
    for before in _direct_causes(events):
        lengths.append(1 + max([lengths[k] for k in before], default=0))
    return max(lengths, default=0)


def _direct_causes(events):
    """Returns the list that has for each event the list of the indices of its direct causes."""
    # For each thread, which events would be direct causes of its next one.
    following = {}
    threads = 1
    found = []
    for index, (thread, made, woke, _) in enumerate(events):
        found.append(following.get(thread, []))
        following[thread] = [index]
        for k in list(range(threads, threads + made)) + list(woke):
            following.setdefault(k, []).append(index)
        threads += made
    return found
