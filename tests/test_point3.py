"""Point 3: out, rate, up, starved, blocked, mean, full, both, long, alone."""

import unittest
from fractions import Fraction
from itertools import product
from math import gcd

from asking import ask, asking_calls, last
from mendedline.longrun import fraction
from model import long_run, measures, told

ASKED = (("out",), ("rate", 0), ("rate", 1), ("up", 0), ("up", 1), ("starved", 0), ("starved", 1),
         ("blocked", 0), ("blocked", 1), ("mean",), ("full",))
KEYS = ("works 1", "works 0", "works 1", "up 0", "up 1", "starved 0", "starved 1", "blocked 0", "blocked 1", "mean")


def told_of(chances, holds):
    return ask(("begin", *chances, holds), *ASKED)[1:]


def asked_by_model(chances, holds):
    """What the calls in ASKED are to answer, in the numbers' form."""
    found = measures(chances, holds)
    return [told(found[key]) for key in KEYS] + [told(found["full"], found["empty"])]


def values_of(chances, holds):
    """The answers as fractions, by the calls' words; full as two."""
    rows = told_of(chances, holds)
    found = {" ".join(map(str, call)): Fraction(row[1], row[2]) for call, row in zip(ASKED, rows)}
    found["empty"] = Fraction(rows[-1][3], rows[-1][4])
    return found


class AgainstTheModel(unittest.TestCase):
    def same(self, chances, holds):
        self.assertEqual(told_of(chances, holds), asked_by_model(chances, holds), (chances, holds))

    def test_room_for_one_and_two(self):
        for chances in product((1, 4, 9), repeat=4):
            self.same(chances, 1)
            self.same(chances, 2)

    def test_more_room(self):
        for holds in range(3, 7):
            for chances in product((1, 6), (2, 9), (1, 7), (3, 8)):
                self.same(chances, holds)

    def test_chances_that_are_10_together(self):
        for holds in range(1, 7):
            for first, second in ((1, 1), (1, 9), (9, 1), (9, 9), (5, 5), (3, 8)):
                self.same((10 - first, first, 10 - second, second), holds)

    def test_of_one_alone_they_are_10_together(self):
        for holds in (1, 4):
            self.same((7, 3, 1, 2), holds)
            self.same((1, 2, 7, 3), holds)

    def test_nearly_never_breaks_or_is_mended(self):
        for holds in (1, 6):
            for chances in product((1, 9), repeat=4):
                self.same(chances, holds)

    def test_two_alike(self):
        for holds in range(1, 7):
            for breaks, mended in ((1, 1), (2, 7), (9, 9), (9, 1), (5, 5)):
                self.same((breaks, mended, breaks, mended), holds)


class ByHand(unittest.TestCase):
    def test_even_chances_whatever_was_before(self):
        # By hand: states weigh 1 where the room is empty and 2 for each other count of pieces.
        for holds in range(1, 7):
            below = 2 * holds + 1
            found = values_of((5, 5, 5, 5), holds)
            self.assertEqual(found["out"], Fraction(holds, below))
            self.assertEqual(found["empty"], Fraction(1, below))
            self.assertEqual(found["full"], Fraction(2, below))
            self.assertEqual(found["mean"], Fraction(holds * (holds + 1), below))
            self.assertEqual(found["starved 1"], Fraction(1, 2 * below))
            self.assertEqual(found["blocked 0"], Fraction(1, 2 * below))

    def test_room_for_one_whatever_was_before(self):
        # By hand: empty is left by p, one piece by (1 - p) q.
        for p, q in product(range(1, 10), repeat=2):
            found = values_of((10 - p, p, 10 - q, q), 1)
            lying = Fraction(10 * p, 10 * p + (10 - p) * q)
            self.assertEqual(found["mean"], lying)
            self.assertEqual(found["full"], lying)
            self.assertEqual(found["out"], lying * q / 10)

    def test_written_out(self):
        rows = ask(("begin", 5, 5, 5, 5, 1), *ASKED)
        self.assertEqual(rows, [[0], [0, 1, 3], [0, 1, 3], [0, 1, 3], [0, 1, 2], [0, 1, 2], [0, 0, 1], [0, 1, 6],
                                [0, 1, 6], [0, 0, 1], [0, 2, 3], [0, 2, 3, 1, 3]])


class WithinTheirBounds(unittest.TestCase):
    LINES = [(chances, holds) for chances in product((1, 3, 9), (1, 7), (2, 9), (1, 4, 9)) for holds in (1, 2, 5)]

    def test_the_first_is_never_starved_the_second_never_blocked(self):
        for chances, holds in self.LINES:
            rows = told_of(chances, holds)
            self.assertEqual(rows[5], [0, 0, 1])
            self.assertEqual(rows[8], [0, 0, 1])

    def test_mean_lies_within_the_room_and_full_and_empty_within_1(self):
        for chances, holds in self.LINES:
            found = values_of(chances, holds)
            self.assertTrue(0 < found["mean"] < holds)
            self.assertTrue(found["full"] > 0 and found["empty"] > 0)
            self.assertLessEqual(found["full"] + found["empty"], 1)
            self.assertEqual(found["full"] + found["empty"] == 1, holds == 1)


class Both(unittest.TestCase):
    def test_down_first_then_up(self):
        # By hand: down by 2/5 and 4/9, up by 3/5 and 5/9.
        self.assertEqual(last(("begin", 2, 3, 4, 5, 3), ("both",)), [0, 8, 45, 1, 3])

    def test_as_by_each_alone_whatever_the_room(self):
        for b1, r1, b2, r2 in product((1, 3, 9), (1, 7), (2, 9), (1, 4, 9)):
            down = Fraction(b1, b1 + r1) * Fraction(b2, b2 + r2)
            up = Fraction(r1, b1 + r1) * Fraction(r2, b2 + r2)
            for holds in (1, 2, 6):
                self.assertEqual(last(("begin", b1, r1, b2, r2, holds), ("both",)), told(down, up))


class Long(unittest.TestCase):
    def all_states(self, chances, holds):
        states = list(product(range(holds + 1), (0, 1), (0, 1)))
        return states, ask(("begin", *chances, holds), *[("long", *state) for state in states])[1:]

    def test_written_out(self):
        # By hand: empty in 1 of 3 hours; each hour goes in each of four ways by a fourth.
        rows = self.all_states((5, 5, 5, 5), 1)[1]
        self.assertEqual(rows, [[0, 1, 12], [0, 1, 4], [0, 0, 1], [0, 0, 1], [0, 1, 6], [0, 0, 1], [0, 1, 4],
                                [0, 1, 4]])

    def test_every_state_against_the_model(self):
        for holds in range(1, 7):
            for chances in ((2, 3, 4, 5), (1, 9, 9, 1), (9, 1, 1, 9), (1, 1, 9, 9), (3, 7, 6, 4)):
                states, rows = self.all_states(chances, holds)
                found = long_run(chances, holds)
                self.assertEqual(rows, [told(found[n, x == 1, y == 1]) for n, x, y in states])

    def test_states_that_can_not_come_from_others(self):
        # The first, up, fills an empty room; the second, up, takes from a full one that the first doesn't fill.
        for holds in range(1, 7):
            for chances in ((2, 3, 4, 5), (5, 5, 5, 5), (1, 9, 1, 9), (9, 1, 9, 1)):
                states, rows = self.all_states(chances, holds)
                never = [state for state, row in zip(states, rows) if row == [0, 0, 1]]
                self.assertEqual(never, [(0, 1, 0), (0, 1, 1), (holds, 0, 1)])

    def test_the_state_that_is_now_may_be_one_that_is_never_come_to(self):
        told_now = ask(("begin", 2, 3, 4, 5, 3), ("now",), ("long", 0, 1, 1))
        self.assertEqual(told_now[1:], [[0, 1, 1], [0, 0, 1]])

    def test_all_together_are_1(self):
        for holds in range(1, 7):
            rows = self.all_states((2, 7, 1, 3), holds)[1]
            self.assertEqual(sum(Fraction(row[1], row[2]) for row in rows), 1)

    def test_mean_full_and_empty_are_told_by_it(self):
        for holds in range(1, 7):
            states, rows = self.all_states((2, 7, 1, 3), holds)
            often = [Fraction(row[1], row[2]) for row in rows]
            found = values_of((2, 7, 1, 3), holds)
            self.assertEqual(found["mean"], sum(state[0] * part for state, part in zip(states, often)))
            self.assertEqual(found["full"], sum(often[-4:]))
            self.assertEqual(found["empty"], sum(often[:4]))

    def test_n_goes_up_to_what_the_room_holds(self):
        for holds in range(1, 7):
            begin = ("begin", 2, 3, 4, 5, holds)
            self.assertEqual(last(begin, ("long", holds, 1, 1))[0], 0)
            self.assertEqual(last(begin, ("long", holds + 1, 1, 1)), [-22])
        self.assertEqual(last(("begin", 2, 3, 4, 5, 6), ("long", 5, 0, 0), ("room", 4), ("long", 5, 0, 0)), [-22])

    def test_x_and_y_are_0_or_1(self):
        for x, y in ((2, 0), (0, 2), (2, 2), (1, 4294967295), (4294967295, 1)):
            self.assertEqual(last(("begin", 2, 3, 4, 5, 3), ("long", 1, x, y)), [-22])

    def test_does_not_hang_on_the_state_that_is_now(self):
        begin = ("begin", 2, 3, 4, 5, 3)
        for state in product(range(4), (0, 1), (0, 1)):
            behind = last(begin, ("hour", 1, 0), ("hour", 0, 0), ("long", *state))
            self.assertEqual(behind, last(begin, ("long", *state)))


class Alone(unittest.TestCase):
    def test_written_out(self):
        asked = ask(("begin", 2, 3, 4, 5, 3), ("alone", 0), ("alone", 1))
        self.assertEqual(asked[1:], [[0, 3, 5, 5, 1, 10, 3], [0, 5, 9, 5, 2, 2, 1]])

    def test_every_pair_of_chances(self):
        for breaks, mended in product(range(1, 10), repeat=2):
            for begin, machine in ((("begin", breaks, mended, 1, 1, 2), 0), (("begin", 1, 1, breaks, mended, 2), 1)):
                row = last(begin, ("alone", machine))
                works, hours_up, hours_down = [Fraction(row[k], row[k + 1]) for k in (1, 3, 5)]
                # Up there is this hour, and as many again by the chance that it goes on; down likewise.
                self.assertEqual(hours_up, 1 + Fraction(10 - breaks, 10) * hours_up)
                self.assertEqual(hours_down, 1 + Fraction(10 - mended, 10) * hours_down)
                self.assertEqual(works, Fraction(mended, mended + breaks))
                self.assertEqual(row, told(works, hours_up, hours_down))

    def test_by_itself_it_works_as_often_as_it_is_up(self):
        for machine in (0, 1):
            rows = ask(("begin", 2, 7, 9, 1, 4), ("alone", machine), ("up", machine))
            self.assertEqual(rows[1][:3], rows[2])

    def test_no_such_machine(self):
        for machine in (2, 3, 4294967295):
            self.assertEqual(last(("begin", 2, 3, 4, 5, 3), ("alone", machine)), [-2])


class Fractions(unittest.TestCase):
    def test_nothing_in_common_and_1_or_more_below(self):
        for chances in product((1, 3, 9), (1, 7), (1, 3, 9), (1, 7)):
            for holds in (1, 2, 5):
                calls = [call for call in asking_calls(holds) if call[0] not in ("now", "state")]
                for row in ask(("begin", *chances, holds), *calls)[1:]:
                    self.assertTrue(row[0] == 0 or row in ([-16], [-17]), row)
                    for at in range(1, len(row), 2):
                        self.assertGreaterEqual(row[at + 1], 1)
                        self.assertEqual(gcd(row[at], row[at + 1]), 1)

    def test_told_in_lowest_numbers(self):
        for above, below, lowest in ((0, 7, [0, 1]), (0, 1, [0, 1]), (2, 3, [2, 3]), (6, 4, [3, 2]), (5, 5, [1, 1]),
                                     (12, 3, [4, 1]), (1, 9, [1, 9])):
            self.assertEqual(fraction(above, below), lowest)

    def test_asking_changes_nothing(self):
        for begin in (("begin", 2, 3, 4, 5, 3), ("begin", 4, 6, 7, 3, 3)):
            calls = asking_calls(3)
            rows = ask(begin, ("hour", 1, 0), *calls, *calls, ("now",), ("state",))[2:]
            self.assertEqual(rows[:len(calls)], rows[len(calls):-2])
            self.assertEqual(rows[-2:], [[1, 1, 0], [3, *begin[1:5]]])


if __name__ == "__main__":
    unittest.main()
