"""The calls on a line of two machines, and the lists in which they are handed in and answered."""

from mendedline.longrun import expected, first_works, pieces_behind, second_works, weights

NO_SUCH = -2
NOT_BEGUN = -11
OUT_OF_RANGE = -22

BEGIN = 0

# How many whole numbers each call brings, by its number.
SIZES = (5, 3, 1, 2, 0, 0, 1, 1, 1, 1, 0, 0, 3, 0, 0, 0, 0, 1, 1, 1, 1, 0, 0, 0)

# The calls whose first whole number is a machine.
OF_MACHINE = (1, 6, 7, 8, 9, 17, 18, 19)


class Line:
    """What is kept from one call to the next."""

    def __init__(self):
        self.begun = False
        self.chances = []
        self.holds = 0
        self.pieces = 0
        self.first = 1
        self.second = 1
        self.known = {}


def chances_fit(chances):
    return all([1 <= chance <= 9 for chance in chances])


def room_fits(holds):
    return 1 <= holds <= 6


def start_over(line):
    line.pieces = 0
    line.first = 1
    line.second = 1


def long_run(line):
    """The states' weights; kept, since to find them costs far more than to ask them."""
    key = tuple(line.chances + [line.holds])
    if key not in line.known:
        line.known[key] = weights(line.chances, line.holds)
    return line.known[key]


def looked_for(line, measure):
    return expected(long_run(line), line.chances, measure)


def begin(line, given):
    if not chances_fit(given[:4]) or not room_fits(given[4]):
        return [OUT_OF_RANGE]
    line.begun = True
    line.chances = given[:4]
    line.holds = given[4]
    start_over(line)
    return [0]


def change(line, given):
    if not chances_fit(given[1:]):
        return [OUT_OF_RANGE]
    at = 2 * given[0]
    old = line.chances[at:at + 2]
    line.chances = line.chances[:at] + given[1:] + line.chances[at + 2:]
    return old


def room(line, given):
    if not room_fits(given[0]):
        return [OUT_OF_RANGE]
    held = line.holds
    line.holds = given[0]
    line.pieces = 0
    return [held]


def hour(line, given):
    first = given[0]
    second = given[1]
    if first > 1 or second > 1:
        return [OUT_OF_RANGE]
    comes_out = second_works(line.pieces, second)
    goes_in = first_works(line.pieces, first, second, line.holds)
    line.pieces = pieces_behind(line.pieces, first, second, line.holds)
    line.first = first
    line.second = second
    return [comes_out, goes_in, line.pieces]


def fresh(line, given):
    lay = line.pieces
    start_over(line)
    return [lay]


def rate_of(line, machine):
    """How often a machine works, as a fraction."""
    if machine == 0:
        return looked_for(line, lambda pieces, first, second: first_works(pieces, first, second, line.holds))
    return looked_for(line, lambda pieces, first, second: second_works(pieces, second))


def out(line, given):
    return [0] + rate_of(line, 1)


def rate(line, given):
    return [0] + rate_of(line, given[0])


def up(line, given):
    if given[0] == 0:
        return [0] + looked_for(line, lambda pieces, first, second: first)
    return [0] + looked_for(line, lambda pieces, first, second: second)


def starved(line, given):
    if given[0] == 0:
        return [0, 0, 1]
    return [0] + looked_for(line, lambda pieces, first, second: second if pieces == 0 else 0)


def blocked(line, given):
    if given[0] == 1:
        return [0, 0, 1]
    holds = line.holds
    return [0] + looked_for(line, lambda pieces, first, second: first - first_works(pieces, first, second, holds))


def mean(line, given):
    return [0] + looked_for(line, lambda pieces, first, second: pieces)


def full(line, given):
    often_full = looked_for(line, lambda pieces, first, second: 1 if pieces == line.holds else 0)
    often_empty = looked_for(line, lambda pieces, first, second: 1 if pieces == 0 else 0)
    return [0] + often_full + often_empty


# By the calls' numbers.
CALLS = (begin, change, room, hour, fresh, out, rate, up, starved, blocked, mean, full)


def answer(line, number, given):
    """What one call answers, the number first."""
    if number != BEGIN and not line.begun:
        return [NOT_BEGUN]
    if number in OF_MACHINE and given[0] > 1:
        return [NO_SUCH]
    if number >= len(CALLS):
        raise NotImplementedError(f"call {number} is not built yet")
    return CALLS[number](line, given)


def answers(calls):
    """For each call in the list, in order: how many numbers it answers, and these."""
    line = Line()
    told = []
    at = 0
    while at < len(calls):
        number = calls[at]
        behind = at + 1 + SIZES[number]
        answered = answer(line, number, calls[at + 1:behind])
        told.append(len(answered))
        told.extend(answered)
        at = behind
    return told
