"""Calls by their names, and answers taken apart again: what the tests ask the program with."""

from mendedline.machines import answers
from model import ModelLine

NAMES = (
    "begin", "change", "room", "hour", "fresh", "out", "rate", "up", "starved", "blocked", "mean", "full",
    "long", "both", "turn", "turned", "more", "sooner", "fewer", "alone", "soon", "free", "now", "state",
)
SIZES = {
    "begin": 5, "change": 3, "room": 1, "hour": 2, "rate": 1, "up": 1, "starved": 1, "blocked": 1,
    "long": 3, "sooner": 1, "fewer": 1, "alone": 1, "soon": 1,
}
TOP = 4294967295


def asking_calls(holds):
    """Every call that asks something of a line and leaves it as it is, with each argument that it takes."""
    calls = [(name,) for name in ("out", "mean", "full", "both", "turned", "more", "free", "now", "state")]
    for name in ("rate", "up", "starved", "blocked", "sooner", "fewer", "alone"):
        calls += [(name, 0), (name, 1)]
    calls += [("long", n, x, y) for n in range(holds + 1) for x in (0, 1) for y in (0, 1)]
    return calls + [("soon", n) for n in range(6)]


def flat(calls):
    """One list of whole numbers out of calls like ("begin", 1, 2, 3, 4, 5)."""
    numbers = []
    for call in calls:
        name, *given = call
        assert len(given) == SIZES.get(name, 0), call
        numbers.append(NAMES.index(name))
        numbers.extend(given)
    return numbers


def apart(told, count):
    """The answers, a list each; fails unless there are just so many."""
    lists = []
    at = 0
    while at < len(told):
        size = told[at]
        assert size >= 1 and at + 1 + size <= len(told), told
        lists.append(told[at + 1:at + 1 + size])
        at += 1 + size
    assert len(lists) == count, told
    return lists


def ask(*calls):
    return apart(answers(flat(calls)), len(calls))


def last(*calls):
    return ask(*calls)[-1]


def due(*calls):
    """What the model says the calls are to answer."""
    line = ModelLine()
    return [line.answer(*call) for call in calls]
