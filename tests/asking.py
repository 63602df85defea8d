"""Calls by their names, and answers taken apart again: what the tests ask the program with."""

from mendedline.machines import answers

NAMES = (
    "begin", "change", "room", "hour", "fresh", "out", "rate", "up", "starved", "blocked", "mean", "full",
    "long", "both", "turn", "turned", "more", "sooner", "fewer", "alone", "soon", "free", "now", "state",
)
SIZES = {
    "begin": 5, "change": 3, "room": 1, "hour": 2, "rate": 1, "up": 1, "starved": 1, "blocked": 1,
    "long": 3, "sooner": 1, "fewer": 1, "alone": 1, "soon": 1,
}
BUILT = NAMES[:12]
TOP = 4294967295


def flat(calls):
    """One list of whole numbers out of calls like ("begin", 1, 2, 3, 4, 5)."""
    numbers = []
    for call in calls:
        name, *given = call
        assert len(given) == SIZES.get(name, 0), call
        numbers.append(NAMES.index(name))
        numbers.extend(given)
    return numbers


def apart(told, count):
    """The answers, a list each; fails unless there are just so many."""
    lists = []
    at = 0
    while at < len(told):
        size = told[at]
        assert size >= 1 and at + 1 + size <= len(told), told
        lists.append(told[at + 1:at + 1 + size])
        at += 1 + size
    assert len(lists) == count, told
    return lists


def ask(*calls):
    return apart(answers(flat(calls)), len(calls))


def last(*calls):
    return ask(*calls)[-1]
