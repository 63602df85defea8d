"""The calls on a line of two machines, and the lists in which they are handed in and answered."""

from mendedline.longrun import first_works, pieces_behind, second_works, state_number
from mendedline.longrun import expected, expected_soon, fraction, weights

NO_SUCH = -2
NOT_BEGUN = -11
HANG_TOGETHER = -16
SO_ALREADY = -17
OUT_OF_RANGE = -22
TOO_MANY = -28

BEGIN = 0

MOST_TENTHS = 9
MOST_ROOM = 6
MOST_HOURS = 5

# How many whole numbers each call brings, by its number.
SIZES = (5, 3, 1, 2, 0, 0, 1, 1, 1, 1, 0, 0, 3, 0, 0, 0, 0, 1, 1, 1, 1, 0, 0, 0)

# The calls whose first whole number is a machine.
OF_MACHINE = (1, 6, 7, 8, 9, 17, 18, 19)


class Line:
    """What is kept from one call to the next."""

    def __init__(self):
        self.begun = False
        self.chances = []
        self.holds = 0
        self.pieces = 0
        self.first = 1
        self.second = 1
        self.known = {}


def chances_fit(chances):
    return all([1 <= chance <= MOST_TENTHS for chance in chances])


def room_fits(holds):
    return 1 <= holds <= MOST_ROOM


def start_over(line):
    line.pieces = 0
    line.first = 1
    line.second = 1


def long_run(line, chances, holds):
    """The states' weights; kept, since to find them costs far more than to ask them."""
    key = tuple(chances + [holds])
    if key not in line.known:
        line.known[key] = weights(chances, holds)
    return line.known[key]


def looked_for(line, measure):
    return expected(long_run(line, line.chances, line.holds), line.chances, measure)


def turned_round(chances):
    return chances[2:] + chances[:2]


def one_changed(chances, at, by):
    return chances[:at] + [chances[at] + by] + chances[at + 1:]


def begin(line, given):
    if not chances_fit(given[:4]) or not room_fits(given[4]):
        return [OUT_OF_RANGE]
    line.begun = True
    line.chances = given[:4]
    line.holds = given[4]
    start_over(line)
    return [0]


def change(line, given):
    if not chances_fit(given[1:]):
        return [OUT_OF_RANGE]
    at = 2 * given[0]
    old = line.chances[at:at + 2]
    line.chances = line.chances[:at] + given[1:] + line.chances[at + 2:]
    return old


def room(line, given):
    if not room_fits(given[0]):
        return [OUT_OF_RANGE]
    held = line.holds
    line.holds = given[0]
    line.pieces = 0
    return [held]


def hour(line, given):
    first = given[0]
    second = given[1]
    if first > 1 or second > 1:
        return [OUT_OF_RANGE]
    comes_out = second_works(line.pieces, second)
    goes_in = first_works(line.pieces, first, second, line.holds)
    line.pieces = pieces_behind(line.pieces, first, second, line.holds)
    line.first = first
    line.second = second
    return [comes_out, goes_in, line.pieces]


def fresh(line, given):
    lay = line.pieces
    start_over(line)
    return [lay]


def brought(pieces, first, second):
    """How many pieces come out in an hour."""
    return second_works(pieces, second)


def rate_of(line, machine):
    """How often a machine works, as a fraction."""
    if machine == 0:
        return looked_for(line, lambda pieces, first, second: first_works(pieces, first, second, line.holds))
    return looked_for(line, brought)


def out(line, given):
    return [0] + rate_of(line, 1)


def rate(line, given):
    return [0] + rate_of(line, given[0])


def up(line, given):
    if given[0] == 0:
        return [0] + looked_for(line, lambda pieces, first, second: first)
    return [0] + looked_for(line, lambda pieces, first, second: second)


def starved(line, given):
    if given[0] == 0:
        return [0, 0, 1]
    return [0] + looked_for(line, lambda pieces, first, second: second if pieces == 0 else 0)


def blocked(line, given):
    if given[0] == 1:
        return [0, 0, 1]
    holds = line.holds
    return [0] + looked_for(line, lambda pieces, first, second: first - first_works(pieces, first, second, holds))


def mean(line, given):
    return [0] + looked_for(line, lambda pieces, first, second: pieces)


def full(line, given):
    often_full = looked_for(line, lambda pieces, first, second: 1 if pieces == line.holds else 0)
    often_empty = looked_for(line, lambda pieces, first, second: 1 if pieces == 0 else 0)
    return [0] + often_full + often_empty


def long(line, given):
    pieces = given[0]
    first = given[1]
    second = given[2]
    if pieces > line.holds or first > 1 or second > 1:
        return [OUT_OF_RANGE]
    found = long_run(line, line.chances, line.holds)
    return [0] + fraction(found[state_number(pieces, first, second)], sum(found))


def both(line, given):
    often_down = looked_for(line, lambda pieces, first, second: (1 - first) * (1 - second))
    often_up = looked_for(line, lambda pieces, first, second: first * second)
    return [0] + often_down + often_up


def turn(line, given):
    line.chances = turned_round(line.chances)
    start_over(line)
    return [line.holds]


def beside(line, chances, holds):
    """How often a piece would come out, were chances and room these; then how often as it is."""
    as_it_would_be = expected(long_run(line, chances, holds), chances, brought)
    return [0] + as_it_would_be + looked_for(line, brought)


def turned(line, given):
    return beside(line, turned_round(line.chances), line.holds)


def more(line, given):
    if line.holds == MOST_ROOM:
        return [TOO_MANY]
    return beside(line, line.chances, line.holds + 1)


def sooner(line, given):
    at = 2 * given[0] + 1
    if line.chances[at] == MOST_TENTHS:
        return [SO_ALREADY]
    return beside(line, one_changed(line.chances, at, 1), line.holds)


def fewer(line, given):
    at = 2 * given[0]
    if line.chances[at] == 1:
        return [SO_ALREADY]
    return beside(line, one_changed(line.chances, at, -1), line.holds)


def alone(line, given):
    breaks = line.chances[2 * given[0]]
    mended = line.chances[2 * given[0] + 1]
    return [0] + fraction(mended, mended + breaks) + fraction(10, breaks) + fraction(10, mended)


def soon(line, given):
    if given[0] > MOST_HOURS:
        return [OUT_OF_RANGE]
    here = state_number(line.pieces, line.first, line.second)
    return [0] + expected_soon(here, line.chances, line.holds, given[0], brought)


def free(line, given):
    if line.chances[0] + line.chances[1] != 10 or line.chances[2] + line.chances[3] != 10:
        return [HANG_TOGETHER]
    # Then a machine that was up is up again by its chance of being mended, as one that was down: the line as it is.
    return out(line, given)


def now(line, given):
    return [line.pieces, line.first, line.second]


def state(line, given):
    return [line.holds] + line.chances


# By the calls' numbers.
CALLS = (
    begin, change, room, hour, fresh, out, rate, up, starved, blocked, mean, full,
    long, both, turn, turned, more, sooner, fewer, alone, soon, free, now, state,
)


def answer(line, number, given):
    """What one call answers, the number first."""
    if number != BEGIN and not line.begun:
        return [NOT_BEGUN]
    if number in OF_MACHINE and given[0] > 1:
        return [NO_SUCH]
    return CALLS[number](line, given)


def answers(calls):
    """For each call in the list, in order: how many numbers it answers, and these."""
    line = Line()
    told = []
    at = 0
    while at < len(calls):
        number = calls[at]
        behind = at + 1 + SIZES[number]
        answered = answer(line, number, calls[at + 1:behind])
        told.append(len(answered))
        told.extend(answered)
        at = behind
    return told
