"""The line again, straight from the document's words, in fractions: slow, and sharing nothing with the program."""

from fractions import Fraction
from functools import lru_cache
from itertools import product

OF_MACHINE = ("change", "rate", "up", "starved", "blocked", "sooner", "fewer", "alone")


def chance_of_up(was_up, breaks, mended):
    return Fraction(10 - breaks, 10) if was_up else Fraction(mended, 10)


def work(pieces, room, first_up, second_up):
    """Who works in an hour: the first, the second."""
    second = second_up and pieces >= 1
    first = first_up and (pieces != room or second)
    return first, second


def hours_behind(state, chances, room):
    """Each way the hour behind a state may go: its chance, who is up, and the state behind it."""
    pieces, first_was, second_was = state
    b1, r1, b2, r2 = chances
    first_chance = chance_of_up(first_was, b1, r1)
    second_chance = chance_of_up(second_was, b2, r2)
    for first_up, second_up in product((False, True), repeat=2):
        chance = first_chance if first_up else 1 - first_chance
        chance *= second_chance if second_up else 1 - second_chance
        first, second = work(pieces, room, first_up, second_up)
        yield chance, first_up, second_up, (pieces + first - second, first_up, second_up)


@lru_cache(maxsize=None)
def long_run(chances, room):
    """How often each state is there: all it is come to, and all together 1, solved by elimination."""
    states = list(product(range(room + 1), (False, True), (False, True)))
    place = {state: k for k, state in enumerate(states)}
    size = len(states)
    rows = [[Fraction(0)] * (size + 1) for state in states]
    for state in states:
        rows[place[state]][place[state]] -= 1
        for chance, _, _, behind in hours_behind(state, chances, room):
            rows[place[behind]][place[state]] += chance
    rows[-1] = [Fraction(1)] * (size + 1)
    for k in range(size):
        pivot = next(r for r in range(k, size) if rows[r][k] != 0)
        rows[k], rows[pivot] = rows[pivot], rows[k]
        rows[k] = [value / rows[k][k] for value in rows[k]]
        for r in range(size):
            factor = rows[r][k]
            if r != k and factor != 0:
                rows[r] = [a - factor * b if b else a for a, b in zip(rows[r], rows[k])]
    return {state: rows[place[state]][-1] for state in states}


@lru_cache(maxsize=None)
def measures(chances, room):
    """What point 3 tells of a line in the long run, by names."""
    found = {name: Fraction(0) for name in (
        "works 0", "works 1", "up 0", "up 1", "starved 0", "starved 1", "blocked 0", "blocked 1", "mean", "full",
        "empty", "both down", "both up")}
    for state, often in long_run(chances, room).items():
        pieces = state[0]
        found["mean"] += often * pieces
        found["full"] += often if pieces == room else 0
        found["empty"] += often if pieces == 0 else 0
        for chance, first_up, second_up, _ in hours_behind(state, chances, room):
            share = often * chance
            first, second = work(pieces, room, first_up, second_up)
            found["works 0"] += share if first else 0
            found["works 1"] += share if second else 0
            found["up 0"] += share if first_up else 0
            found["up 1"] += share if second_up else 0
            found["starved 1"] += share if second_up and pieces == 0 else 0
            found["blocked 0"] += share if first_up and not first else 0
            found["both down"] += share if not first_up and not second_up else 0
            found["both up"] += share if first_up and second_up else 0
    return found


def out_in_hours(state, chances, room, hours):
    """How many pieces come out in so many hours from a state on, looked for: each way the hours may go, one by one."""
    if hours == 0:
        return Fraction(0)
    total = Fraction(0)
    for chance, first_up, second_up, behind in hours_behind(state, chances, room):
        comes_out = work(state[0], room, first_up, second_up)[1]
        total += chance * (comes_out + out_in_hours(behind, chances, room, hours - 1))
    return total


def out_if_free(first, second, room):
    """How often a piece comes out where each machine is up by its chance, whatever was before.

    By hand: then the pieces alone are the state. Nothing lies there till the first is up; from then on one more comes
    by first (1 - second), one fewer by (1 - first) second, and between neighbours as many go up as down.
    """
    fewer = (1 - first) * second
    weights = [Fraction(1), first / fewer]
    while len(weights) <= room:
        weights.append(weights[-1] * first * (1 - second) / fewer)
    return second * sum(weights[1:]) / sum(weights)


def told(*fractions):
    """0, then the fractions in the numbers' form."""
    numbers = [0]
    for value in fractions:
        numbers += [value.numerator, value.denominator]
    return numbers


class ModelLine:
    """What each call is to answer, call by call."""

    def __init__(self):
        self.chances = None

    def answer(self, name, *given):
        if name == "begin":
            return self.begin(*given)
        if self.chances is None:
            return [-11]
        if name in OF_MACHINE and given[0] not in (0, 1):
            return [-2]
        return getattr(self, name)(*given)

    def found(self, name):
        return measures(self.chances, self.holds)[name]

    def would_come_out(self, chances, holds):
        return told(measures(chances, holds)["works 1"], self.found("works 1"))

    def begin(self, b1, r1, b2, r2, n):
        if not {b1, r1, b2, r2} <= set(range(1, 10)) or n not in range(1, 7):
            return [-22]
        self.chances = (b1, r1, b2, r2)
        self.holds = n
        self.at = (0, True, True)
        return [0]

    def change(self, i, b, r):
        if not {b, r} <= set(range(1, 10)):
            return [-22]
        pairs = [self.chances[:2], self.chances[2:]]
        was = list(pairs[i])
        pairs[i] = (b, r)
        self.chances = pairs[0] + pairs[1]
        return was

    def room(self, n):
        if n not in range(1, 7):
            return [-22]
        was = self.holds
        self.holds = n
        self.at = (0,) + self.at[1:]
        return [was]

    def hour(self, x, y):
        if not {x, y} <= {0, 1}:
            return [-22]
        first, second = work(self.at[0], self.holds, x == 1, y == 1)
        self.at = (self.at[0] + first - second, x == 1, y == 1)
        return [int(second), int(first), self.at[0]]

    def fresh(self):
        lay = self.at[0]
        self.at = (0, True, True)
        return [lay]

    def out(self):
        return told(self.found("works 1"))

    def rate(self, i):
        return told(self.found(f"works {i}"))

    def up(self, i):
        return told(self.found(f"up {i}"))

    def starved(self, i):
        return told(self.found(f"starved {i}"))

    def blocked(self, i):
        return told(self.found(f"blocked {i}"))

    def mean(self):
        return told(self.found("mean"))

    def full(self):
        return told(self.found("full"), self.found("empty"))

    def long(self, n, x, y):
        if n not in range(self.holds + 1) or not {x, y} <= {0, 1}:
            return [-22]
        return told(long_run(self.chances, self.holds)[n, x == 1, y == 1])

    def both(self):
        return told(self.found("both down"), self.found("both up"))

    def turn(self):
        b1, r1, b2, r2 = self.chances
        self.chances = (b2, r2, b1, r1)
        self.at = (0, True, True)
        return [self.holds]

    def turned(self):
        b1, r1, b2, r2 = self.chances
        return self.would_come_out((b2, r2, b1, r1), self.holds)

    def more(self):
        if self.holds == 6:
            return [-28]
        return self.would_come_out(self.chances, self.holds + 1)

    def sooner(self, i):
        b1, r1, b2, r2 = self.chances
        if (r1, r2)[i] == 9:
            return [-17]
        return self.would_come_out((b1, r1 + 1, b2, r2) if i == 0 else (b1, r1, b2, r2 + 1), self.holds)

    def fewer(self, i):
        b1, r1, b2, r2 = self.chances
        if (b1, b2)[i] == 1:
            return [-17]
        return self.would_come_out((b1 - 1, r1, b2, r2) if i == 0 else (b1, r1, b2 - 1, r2), self.holds)

    def alone(self, i):
        breaks, mended = [Fraction(tenth, 10) for tenth in self.chances[2 * i:2 * i + 2]]
        # Once it is up there is this hour, and as many again by the chance that it doesn't break; down likewise.
        hours_up = 1 / breaks
        hours_down = 1 / mended
        return told(hours_up / (hours_up + hours_down), hours_up, hours_down)

    def soon(self, n):
        if n not in range(6):
            return [-22]
        return told(out_in_hours(self.at, self.chances, self.holds, n))

    def free(self):
        b1, r1, b2, r2 = self.chances
        if b1 + r1 != 10 or b2 + r2 != 10:
            return [-16]
        return told(out_if_free(Fraction(r1, 10), Fraction(r2, 10), self.holds))

    def now(self):
        return [self.at[0], int(self.at[1]), int(self.at[2])]

    def state(self):
        return [self.holds, *self.chances]
