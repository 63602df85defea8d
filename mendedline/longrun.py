"""What two machines do in an hour, and how often each state is there in the long run.

A state is one number: four times the pieces that lie there at an hour's beginning, and 2 more if the first
machine was up in the hour before, and 1 more if the second was. Chances are a list of four, in tenths: how
the first breaks, is mended; how the second breaks, is mended. Up is 1, down is 0.
"""

UPS = ((0, 0), (0, 1), (1, 0), (1, 1))


def second_works(pieces, second):
    return 1 if second == 1 and pieces > 0 else 0


def first_works(pieces, first, second, holds):
    place = pieces < holds or second_works(pieces, second) == 1
    return 1 if first == 1 and place else 0


def pieces_behind(pieces, first, second, holds):
    """How many pieces lie there behind an hour in which the machines are up as told."""
    return pieces + first_works(pieces, first, second, holds) - second_works(pieces, second)


def tenths(was, now, breaks, mended):
    """In how many of ten hours a machine that was up or down in the hour before is up or down as told."""
    rising = 10 - breaks if was == 1 else mended
    return rising if now == 1 else 10 - rising


def hundredths(state, ups, chances):
    """In how many of a hundred hours behind this state the two machines are up as told."""
    first = tenths(state // 2 % 2, ups[0], chances[0], chances[1])
    second = tenths(state % 2, ups[1], chances[2], chances[3])
    return first * second


def state_number(pieces, first, second):
    return 4 * pieces + 2 * first + second


def state_behind(state, ups, holds):
    """The state behind an hour in which the two machines are up as told."""
    return state_number(pieces_behind(state // 4, ups[0], ups[1], holds), ups[0], ups[1])


def flows(chances, holds):
    """For each state a row: of a hundred hours in it, how many lead to each state, less the hundred themselves."""
    size = 4 * (holds + 1)
    rows = []
    for state in range(size):
        row = [0] * size
        row[state] = -100
        for ups in UPS:
            row[state_behind(state, ups, holds)] += hundredths(state, ups, chances)
        rows.append(row)
    return rows


def leaving(rows):
    """How strongly the last state is left; above 0, since from every state the line can come to state 0."""
    return -rows[-1][-1]


def folded(rows, before):
    """The rows without the last state: who came to it goes on at once to where it leads.

    All rows grow by one factor, so the long run of the other states stays as it is. The factor of the fold
    before this one (1 at the first) divides each new number without rest, since each is a determinant out of
    the rows at the beginning; without that the numbers would grow twice as long with every fold.
    """
    last = rows[-1]
    factor = leaving(rows)
    shorter = []
    for row in rows[:-1]:
        through = row[-1]
        shorter.append([(row[k] * factor + through * last[k]) // before for k in range(len(last) - 1)])
    return shorter


def come_to(found, rows):
    """The weight of the last state, from those of all states ahead of it."""
    coming = sum([found[k] * rows[k][-1] for k in range(len(found))])
    return coming // leaving(rows)


def weights(chances, holds):
    """For each state a whole number: to one another they are as the states are in the long run."""
    rows = flows(chances, holds)
    folds = []
    before = 1
    while len(rows) > 1:
        folds.append(rows)
        factor = leaving(rows)
        rows = folded(rows, before)
        before = factor
    # State 0 is given the last factor: so each weight is a determinant too, and no division leaves a rest.
    found = [before]
    for fold in reversed(folds):
        found.append(come_to(found, fold))
    return found


def common(one, other):
    """The greatest whole number that divides both."""
    while other > 0:
        rest = one % other
        one = other
        other = rest
    return one


def fraction(above, below):
    shared = common(above, below)
    return [above // shared, below // shared]


def measured(found, chances, measure):
    """How much measure(pieces, first, second) is in an hour behind states of these weights, a hundred times over."""
    above = 0
    for state, weight in enumerate(found):
        for ups in UPS:
            above += weight * hundredths(state, ups, chances) * measure(state // 4, ups[0], ups[1])
    return above


def expected(found, chances, measure):
    """How much measure(pieces, first, second) is in an hour, looked for, by the states' weights."""
    return fraction(measured(found, chances, measure), 100 * sum(found))


def hour_on(found, chances, holds):
    """The states' weights an hour on, a hundred times over, so that they stay whole."""
    behind = [0] * len(found)
    for state, weight in enumerate(found):
        for ups in UPS:
            behind[state_behind(state, ups, holds)] += weight * hundredths(state, ups, chances)
    return behind


def expected_soon(state, chances, holds, hours, measure):
    """How much measure(pieces, first, second) is, looked for, in so many hours from a state on, all together."""
    found = [0] * (4 * (holds + 1))
    found[state] = 1
    above = 0
    below = 1
    for past in range(hours):
        above = 100 * above + measured(found, chances, measure)
        below = 100 * below
        found = hour_on(found, chances, holds)
    return fraction(above, below)
