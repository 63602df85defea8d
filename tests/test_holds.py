"""What holds over the whole program, a to f."""

import unittest
from fractions import Fraction
from itertools import product

from asking import ask, asking_calls, last
from model import hours_behind, out_if_free

LINES = [(chances, holds) for chances in product((1, 3, 9), (1, 7), (2, 9), (1, 4, 9)) for holds in (1, 2, 5, 6)]


def fractions_of(row):
    return [Fraction(row[at], row[at + 1]) for at in range(1, len(row), 2)]


def asked(chances, holds, *calls):
    """The first fraction that each call tells, of a line begun so."""
    return [fractions_of(row)[0] for row in ask(("begin", *chances, holds), *calls)[1:]]


class WhatHolds(unittest.TestCase):
    def test_a_each_state_is_there_as_often_as_it_is_come_to(self):
        for chances, holds in LINES:
            states = list(product(range(holds + 1), (0, 1), (0, 1)))
            often = dict(zip(states, asked(chances, holds, *[("long", *state) for state in states])))
            come_to = dict.fromkeys(states, Fraction(0))
            for state in states:
                for chance, _, _, behind in hours_behind(state, chances, holds):
                    come_to[behind] += often[state] * chance
            self.assertEqual(often, come_to, (chances, holds))
            self.assertEqual(sum(often.values()), 1)

    def test_b_up_as_often_as_mending_is_of_mending_and_breaking(self):
        for chances, holds in LINES:
            for machine in (0, 1):
                breaks, mended = chances[2 * machine:2 * machine + 2]
                up, alone = asked(chances, holds, ("up", machine), ("alone", machine))
                self.assertEqual(up, Fraction(mended, mended + breaks))
                self.assertEqual(alone, up)

    def test_b_whatever_the_other_does(self):
        for other in product((1, 5, 9), repeat=2):
            self.assertEqual(asked((2, 7, *other), 3, ("up", 0)), [Fraction(7, 9)])
            self.assertEqual(asked((*other, 2, 7), 3, ("up", 1)), [Fraction(7, 9)])

    def test_b_both_are_up_or_down_as_often_as_by_each_alone(self):
        for chances, holds in LINES:
            first, second = asked(chances, holds, ("up", 0), ("up", 1))
            down, up = fractions_of(last(("begin", *chances, holds), ("both",)))
            self.assertEqual(up, first * second)
            self.assertEqual(down, (1 - first) * (1 - second))

    def test_c_both_work_as_often_and_so_pieces_come_out(self):
        for chances, holds in LINES:
            first, second, out = asked(chances, holds, ("rate", 0), ("rate", 1), ("out",))
            self.assertEqual(first, second)
            self.assertEqual(out, second)

    def test_c_up_a_machine_works_or_is_starved_or_blocked(self):
        for chances, holds in LINES:
            for i in (0, 1):
                up, *parts = asked(chances, holds, ("up", i), ("rate", i), ("starved", i), ("blocked", i))
                self.assertEqual(up, sum(parts))

    def test_d_turned_round_it_brings_as_many(self):
        for chances, holds in LINES:
            begin = ("begin", *chances, holds)
            rows = ask(begin, ("out",), ("turned",), ("turn",), ("out",), ("turned",))
            self.assertEqual(rows[4], rows[1], begin)
            self.assertEqual(rows[2], rows[1] + rows[1][1:], begin)
            self.assertEqual(rows[5], rows[2], begin)

    def test_d_turned_round_starved_is_blocked(self):
        # What one end waits for, the other waits for when turned: up as often, and working as often, it waits as often.
        for chances, holds in LINES:
            rows = ask(("begin", *chances, holds), ("starved", 1), ("blocked", 0), ("turn",), ("blocked", 0),
                       ("starved", 1))
            self.assertEqual(rows[4:], rows[1:3])

    def test_e_where_an_hour_does_not_hang_on_the_one_before(self):
        for p, q in product(range(1, 10), repeat=2):
            for holds in (1, 3, 6):
                out, free = asked((10 - p, p, 10 - q, q), holds, ("out",), ("free",))
                self.assertEqual(out, out_if_free(Fraction(p, 10), Fraction(q, 10), holds))
                self.assertEqual(free, out)

    def test_e_then_who_was_up_does_not_matter(self):
        for ups in product((0, 1), repeat=2):
            begin = ("begin", 7, 3, 4, 6, 3)
            behind = [("hour", 1, 0), ("hour", 1, 0), ("hour", *ups)]
            lying = ask(begin, *behind)[-1][2]
            rows = ask(begin, *behind, *[("soon", n) for n in range(6)])[-6:]
            self.assertEqual(rows, ask(begin, *[("hour", 1, 0)] * lying, *[("soon", n) for n in range(6)])[-6:])

    def test_f_more_room_never_brings_fewer_nor_more_than_either_alone(self):
        for chances in product((1, 5, 9), (1, 8), (2, 9), (1, 5, 9)):
            brought = [asked(chances, holds, ("out",))[0] for holds in range(1, 7)]
            self.assertEqual(brought, sorted(brought))
            self.assertLessEqual(brought[-1], min(asked(chances, 6, ("alone", 0), ("alone", 1))))
            for holds in range(1, 6):
                row = last(("begin", *chances, holds), ("more",))
                self.assertEqual(fractions_of(row), [brought[holds], brought[holds - 1]])

    def test_f_what_is_refused_changes_nothing(self):
        before = (("begin", 1, 9, 9, 3, 6), ("hour", 1, 0), ("hour", 1, 0), ("hour", 0, 1))
        refused = (("begin", 0, 1, 1, 1, 1), ("change", 2, 1, 1), ("change", 0, 1, 0), ("room", 7), ("hour", 1, 2),
                   ("rate", 2), ("up", 2), ("starved", 2), ("blocked", 2), ("long", 7, 0, 0), ("more",), ("sooner", 0),
                   ("sooner", 2), ("fewer", 0), ("fewer", 2), ("alone", 2), ("soon", 6), ("free",))
        rows = ask(*before, *refused, *asking_calls(6))
        for row in rows[len(before):len(before) + len(refused)]:
            self.assertTrue(len(row) == 1 and row[0] < 0, row)
        self.assertEqual(rows[len(before) + len(refused):], ask(*before, *asking_calls(6))[len(before):])


if __name__ == "__main__":
    unittest.main()
