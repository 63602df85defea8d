"""Point 4: turned, more, sooner, fewer, free."""

import unittest
from fractions import Fraction
from itertools import product

from asking import TOP, ask, due, last
from model import out_if_free, told

BEGIN = ("begin", 2, 3, 4, 5, 3)
LINES = [(chances, holds) for chances in product((1, 2, 9), (1, 8), (1, 6), (2, 9)) for holds in (1, 3, 6)]


def as_begun(chances, holds):
    """How often a piece comes out of a line begun so."""
    return last(("begin", *chances, holds), ("out",))[1:]


def nudged(chances, at, by):
    return chances[:at] + (chances[at] + by,) + chances[at + 1:]


class LeavesTheLine(unittest.TestCase):
    def test_the_line_and_its_pieces_stay_as_they_were(self):
        asked = (("now",), ("state",), ("out",), ("soon", 4), ("long", 2, 1, 0))
        before = (("begin", 3, 7, 4, 6, 3), ("hour", 1, 0), ("hour", 1, 0), ("hour", 0, 1))
        unspoilt = ask(*before, *asked)[-len(asked):]
        self.assertEqual(unspoilt[:2], [[1, 0, 1], [3, 3, 7, 4, 6]])
        for call in (("turned",), ("more",), ("sooner", 0), ("sooner", 1), ("fewer", 0), ("fewer", 1), ("free",)):
            rows = ask(*before, call, *asked)
            self.assertEqual(rows[len(before)][0], 0, call)
            self.assertEqual(rows[-len(asked):], unspoilt, call)

    def test_asked_again_the_same_is_told(self):
        calls = (("turned",), ("more",), ("sooner", 0), ("fewer", 1), ("out",))
        rows = ask(BEGIN, *calls, *calls)[1:]
        self.assertEqual(rows[:5], rows[5:])


class Turned(unittest.TestCase):
    def test_as_it_would_be_then_as_it_is(self):
        for chances, holds in LINES:
            row = last(("begin", *chances, holds), ("turned",))
            self.assertEqual(row, [0, *as_begun(chances[2:] + chances[:2], holds), *as_begun(chances, holds)])

    def test_as_many_come_out(self):
        for chances, holds in LINES:
            row = last(("begin", *chances, holds), ("turned",))
            self.assertEqual(row[1:3], row[3:5])

    def test_against_the_model(self):
        for chances, holds in LINES[::5]:
            calls = (("begin", *chances, holds), ("turned",))
            self.assertEqual(ask(*calls), due(*calls))


class More(unittest.TestCase):
    def test_written_out(self):
        # By hand: with all chances 5 a piece comes out in n of 2 n + 1 hours, where the room holds n.
        for n in range(1, 6):
            row = last(("begin", 5, 5, 5, 5, n), ("more",))
            self.assertEqual(row, told(Fraction(n + 1, 2 * n + 3), Fraction(n, 2 * n + 1)))

    def test_as_it_would_be_then_as_it_is(self):
        for chances in product((1, 2, 9), (1, 8), (1, 6), (2, 9)):
            for holds in range(1, 6):
                row = last(("begin", *chances, holds), ("more",))
                self.assertEqual(row, [0, *as_begun(chances, holds + 1), *as_begun(chances, holds)])

    def test_against_the_model(self):
        for chances in product((1, 9), (2, 8), (1, 6), (2, 9)):
            calls = (("begin", *chances, 1), ("more",), ("room", 5), ("more",))
            self.assertEqual(ask(*calls), due(*calls))

    def test_a_room_that_holds_6_is_refused(self):
        self.assertEqual(last(("begin", 2, 3, 4, 5, 6), ("more",)), [-28])
        rows = ask(BEGIN, ("more",), ("room", 6), ("more",), ("room", 5), ("more",))
        self.assertEqual([row[0] for row in rows[1::2]], [0, -28, 0])

    def test_the_pieces_that_lie_there_do_not_matter(self):
        self.assertEqual(last(BEGIN, *[("hour", 1, 0)] * 3, ("more",)), last(BEGIN, ("more",)))


class Sooner(unittest.TestCase):
    def test_as_it_would_be_then_as_it_is(self):
        for chances, holds in LINES:
            for machine in (0, 1):
                at = 2 * machine + 1
                row = last(("begin", *chances, holds), ("sooner", machine))
                if chances[at] == 9:
                    self.assertEqual(row, [-17])
                else:
                    self.assertEqual(row, [0, *as_begun(nudged(chances, at, 1), holds), *as_begun(chances, holds)])

    def test_against_the_model(self):
        for chances, holds in LINES[::5]:
            calls = (("begin", *chances, holds), ("sooner", 0), ("sooner", 1))
            self.assertEqual(ask(*calls), due(*calls))

    def test_mended_by_9_is_refused_of_that_machine_alone(self):
        self.assertEqual([row[0] for row in ask(("begin", 2, 9, 4, 8, 3), ("sooner", 0), ("sooner", 1))], [0, -17, 0])
        self.assertEqual([row[0] for row in ask(("begin", 9, 8, 9, 9, 3), ("sooner", 0), ("sooner", 1))], [0, 0, -17])

    def test_no_such_machine_goes_first(self):
        for machine in (2, 3, TOP):
            self.assertEqual(last(BEGIN, ("sooner", machine)), [-2])
            self.assertEqual(last(("begin", 1, 9, 1, 9, 6), ("sooner", machine)), [-2])


class Fewer(unittest.TestCase):
    def test_as_it_would_be_then_as_it_is(self):
        for chances, holds in LINES:
            for machine in (0, 1):
                at = 2 * machine
                row = last(("begin", *chances, holds), ("fewer", machine))
                if chances[at] == 1:
                    self.assertEqual(row, [-17])
                else:
                    self.assertEqual(row, [0, *as_begun(nudged(chances, at, -1), holds), *as_begun(chances, holds)])

    def test_against_the_model(self):
        for chances, holds in LINES[::5]:
            calls = (("begin", *chances, holds), ("fewer", 0), ("fewer", 1))
            self.assertEqual(ask(*calls), due(*calls))

    def test_breaking_by_1_is_refused_of_that_machine_alone(self):
        self.assertEqual([row[0] for row in ask(("begin", 1, 9, 2, 1, 3), ("fewer", 0), ("fewer", 1))], [0, -17, 0])
        self.assertEqual([row[0] for row in ask(("begin", 2, 1, 1, 1, 3), ("fewer", 0), ("fewer", 1))], [0, 0, -17])

    def test_no_such_machine_goes_first(self):
        for machine in (2, 3, TOP):
            self.assertEqual(last(BEGIN, ("fewer", machine)), [-2])
            self.assertEqual(last(("begin", 1, 9, 1, 9, 6), ("fewer", machine)), [-2])


class Free(unittest.TestCase):
    def test_written_out(self):
        self.assertEqual(last(("begin", 5, 5, 5, 5, 1), ("free",)), [0, 1, 3])
        self.assertEqual(last(("begin", 1, 9, 5, 5, 1), ("free",)), [0, 9, 19])
        self.assertEqual(last(("begin", 5, 5, 5, 5, 6), ("free",)), [0, 6, 13])

    def test_as_worked_out_by_hand_for_free_machines(self):
        for p, q in product(range(1, 10), repeat=2):
            for holds in (1, 2, 6):
                row = last(("begin", 10 - p, p, 10 - q, q, holds), ("free",))
                self.assertEqual(row, told(out_if_free(Fraction(p, 10), Fraction(q, 10), holds)))

    def test_refused_where_of_one_they_are_not_10_together(self):
        for chances in ((5, 5, 5, 4), (5, 5, 5, 6), (5, 4, 5, 5), (5, 6, 5, 5), (9, 9, 1, 1), (1, 1, 9, 9),
                        (2, 3, 7, 8), (1, 9, 9, 2), (2, 9, 1, 9), (6, 4, 4, 5)):
            self.assertEqual(last(("begin", *chances, 3), ("free",)), [-16], chances)

    def test_all_chances_by_which_it_is_refused(self):
        for b1, r1 in product(range(1, 10), repeat=2):
            rows = ask(("begin", b1, r1, 3, 7, 1), ("free",), ("begin", 3, 7, b1, r1, 1), ("free",))
            due_number = 0 if b1 + r1 == 10 else -16
            self.assertEqual([row[0] for row in rows[1::2]], [due_number, due_number])


if __name__ == "__main__":
    unittest.main()
