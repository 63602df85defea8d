"""The long run again, straight from the document's words, in fractions: slow, and sharing nothing with the program."""

from fractions import Fraction
from itertools import product


def chance_of_up(was_up, breaks, mended):
    return Fraction(10 - breaks, 10) if was_up else Fraction(mended, 10)


def work(pieces, room, first_up, second_up):
    """Who works in an hour: the first, the second."""
    second = second_up and pieces >= 1
    first = first_up and (pieces != room or second)
    return first, second


def hours_behind(state, chances, room):
    """Each way the hour behind a state may go: its chance, who is up, and the state behind it."""
    pieces, first_was, second_was = state
    b1, r1, b2, r2 = chances
    first_chance = chance_of_up(first_was, b1, r1)
    second_chance = chance_of_up(second_was, b2, r2)
    for first_up, second_up in product((False, True), repeat=2):
        chance = first_chance if first_up else 1 - first_chance
        chance *= second_chance if second_up else 1 - second_chance
        first, second = work(pieces, room, first_up, second_up)
        yield chance, first_up, second_up, (pieces + first - second, first_up, second_up)


def long_run(chances, room):
    """How often each state is there: all it is come to, and all together 1, solved by elimination."""
    states = list(product(range(room + 1), (False, True), (False, True)))
    place = {state: k for k, state in enumerate(states)}
    size = len(states)
    rows = [[Fraction(0)] * (size + 1) for state in states]
    for state in states:
        rows[place[state]][place[state]] -= 1
        for chance, _, _, behind in hours_behind(state, chances, room):
            rows[place[behind]][place[state]] += chance
    rows[-1] = [Fraction(1)] * (size + 1)
    for k in range(size):
        pivot = next(r for r in range(k, size) if rows[r][k] != 0)
        rows[k], rows[pivot] = rows[pivot], rows[k]
        rows[k] = [value / rows[k][k] for value in rows[k]]
        for r in range(size):
            factor = rows[r][k]
            if r != k and factor != 0:
                rows[r] = [a - factor * b if b else a for a, b in zip(rows[r], rows[k])]
    return {state: rows[place[state]][-1] for state in states}


def measures(chances, room):
    """All that point 3 tells of a line, by names."""
    found = {name: Fraction(0) for name in (
        "works 0", "works 1", "up 0", "up 1", "starved 1", "blocked 0", "mean", "full", "empty")}
    for state, often in long_run(chances, room).items():
        pieces = state[0]
        found["mean"] += often * pieces
        found["full"] += often if pieces == room else 0
        found["empty"] += often if pieces == 0 else 0
        for chance, first_up, second_up, _ in hours_behind(state, chances, room):
            share = often * chance
            first, second = work(pieces, room, first_up, second_up)
            found["works 0"] += share if first else 0
            found["works 1"] += share if second else 0
            found["up 0"] += share if first_up else 0
            found["up 1"] += share if second_up else 0
            found["starved 1"] += share if second_up and pieces == 0 else 0
            found["blocked 0"] += share if first_up and not first else 0
    return found
