"""Point 3: out, rate, up, starved, blocked, mean, full; and of what holds, b, c and f for these calls."""

import unittest
from fractions import Fraction
from itertools import product
from math import gcd

from asking import ask
from mendedline.longrun import fraction
from model import measures

ASKED = (("out",), ("rate", 0), ("rate", 1), ("up", 0), ("up", 1), ("starved", 0), ("starved", 1),
         ("blocked", 0), ("blocked", 1), ("mean",), ("full",))
KEYS = ("works 1", "works 0", "works 1", "up 0", "up 1", None, "starved 1", "blocked 0", None, "mean")


def told_of(chances, holds):
    return ask(("begin", *chances, holds), *ASKED)[1:]


def asked_by_model(chances, holds):
    """What the calls in ASKED are to answer, in the numbers' form."""
    found = measures(chances, holds)
    values = [[found[key] if key else Fraction(0)] for key in KEYS] + [[found["full"], found["empty"]]]
    return [[0] + [n for value in row for n in (value.numerator, value.denominator)] for row in values]


def values_of(chances, holds):
    """The answers as fractions, by the calls' words; full as two."""
    told = told_of(chances, holds)
    found = {" ".join(map(str, call)): Fraction(row[1], row[2]) for call, row in zip(ASKED, told)}
    found["empty"] = Fraction(told[-1][3], told[-1][4])
    return found


class AgainstTheModel(unittest.TestCase):
    def same(self, chances, holds):
        self.assertEqual(told_of(chances, holds), asked_by_model(chances, holds), (chances, holds))

    def test_room_for_one_and_two(self):
        for chances in product((1, 4, 9), repeat=4):
            self.same(chances, 1)
            self.same(chances, 2)

    def test_more_room(self):
        for holds in range(3, 7):
            for chances in product((1, 6), (2, 9), (1, 7), (3, 8)):
                self.same(chances, holds)

    def test_chances_that_are_10_together(self):
        for holds in range(1, 7):
            for first, second in ((1, 1), (1, 9), (9, 1), (9, 9), (5, 5), (3, 8)):
                self.same((10 - first, first, 10 - second, second), holds)

    def test_of_one_alone_they_are_10_together(self):
        for holds in (1, 4):
            self.same((7, 3, 1, 2), holds)
            self.same((1, 2, 7, 3), holds)

    def test_nearly_never_breaks_or_is_mended(self):
        for holds in (1, 6):
            for chances in product((1, 9), repeat=4):
                self.same(chances, holds)

    def test_two_alike(self):
        for holds in range(1, 7):
            for breaks, mended in ((1, 1), (2, 7), (9, 9), (9, 1), (5, 5)):
                self.same((breaks, mended, breaks, mended), holds)


class ByHand(unittest.TestCase):
    def test_even_chances_whatever_was_before(self):
        # By hand: states weigh 1 where the room is empty and 2 for each other count of pieces.
        for holds in range(1, 7):
            below = 2 * holds + 1
            found = values_of((5, 5, 5, 5), holds)
            self.assertEqual(found["out"], Fraction(holds, below))
            self.assertEqual(found["empty"], Fraction(1, below))
            self.assertEqual(found["full"], Fraction(2, below))
            self.assertEqual(found["mean"], Fraction(holds * (holds + 1), below))
            self.assertEqual(found["starved 1"], Fraction(1, 2 * below))
            self.assertEqual(found["blocked 0"], Fraction(1, 2 * below))

    def test_room_for_one_whatever_was_before(self):
        # By hand: empty is left by p, one piece by (1 - p) q.
        for p, q in product(range(1, 10), repeat=2):
            found = values_of((10 - p, p, 10 - q, q), 1)
            lying = Fraction(10 * p, 10 * p + (10 - p) * q)
            self.assertEqual(found["mean"], lying)
            self.assertEqual(found["full"], lying)
            self.assertEqual(found["out"], lying * q / 10)

    def test_written_out(self):
        told = ask(("begin", 5, 5, 5, 5, 1), *ASKED)
        self.assertEqual(told, [[0], [0, 1, 3], [0, 1, 3], [0, 1, 3], [0, 1, 2], [0, 1, 2], [0, 0, 1], [0, 1, 6],
                                [0, 1, 6], [0, 0, 1], [0, 2, 3], [0, 2, 3, 1, 3]])


class WhatHolds(unittest.TestCase):
    LINES = [(chances, holds) for chances in product((1, 3, 9), (1, 7), (2, 9), (1, 4, 9)) for holds in (1, 2, 5)]

    def test_up_as_often_as_mending_is_of_mending_and_breaking(self):
        for chances, holds in self.LINES:
            found = values_of(chances, holds)
            self.assertEqual(found["up 0"], Fraction(chances[1], chances[0] + chances[1]))
            self.assertEqual(found["up 1"], Fraction(chances[3], chances[2] + chances[3]))

    def test_both_work_as_often_and_so_pieces_come_out(self):
        for chances, holds in self.LINES:
            found = values_of(chances, holds)
            self.assertEqual(found["rate 0"], found["rate 1"])
            self.assertEqual(found["out"], found["rate 1"])

    def test_up_a_machine_works_or_is_starved_or_blocked(self):
        for chances, holds in self.LINES:
            found = values_of(chances, holds)
            for i in ("0", "1"):
                parts = found["rate " + i] + found["starved " + i] + found["blocked " + i]
                self.assertEqual(found["up " + i], parts)

    def test_the_first_is_never_starved_the_second_never_blocked(self):
        for chances, holds in self.LINES:
            told = told_of(chances, holds)
            self.assertEqual(told[5], [0, 0, 1])
            self.assertEqual(told[8], [0, 0, 1])

    def test_more_room_never_brings_fewer_nor_more_than_either_alone(self):
        for chances in product((1, 5, 9), (1, 8), (2, 9), (1, 5, 9)):
            brought = [values_of(chances, holds)["out"] for holds in range(1, 7)]
            self.assertEqual(brought, sorted(brought))
            alone = min(Fraction(chances[k + 1], chances[k] + chances[k + 1]) for k in (0, 2))
            self.assertLessEqual(brought[-1], alone)

    def test_mean_lies_within_the_room_and_full_and_empty_within_1(self):
        for chances, holds in self.LINES:
            found = values_of(chances, holds)
            self.assertTrue(0 < found["mean"] < holds)
            self.assertTrue(found["full"] > 0 and found["empty"] > 0)
            self.assertLessEqual(found["full"] + found["empty"], 1)
            self.assertEqual(found["full"] + found["empty"] == 1, holds == 1)


class Fractions(unittest.TestCase):
    def test_nothing_in_common_and_1_or_more_below(self):
        for chances, holds in WhatHolds.LINES:
            for row in told_of(chances, holds):
                self.assertEqual(row[0], 0)
                self.assertIn(len(row), (3, 5))
                for at in range(1, len(row), 2):
                    self.assertGreaterEqual(row[at + 1], 1)
                    self.assertEqual(gcd(row[at], row[at + 1]), 1)

    def test_told_in_lowest_numbers(self):
        for above, below, told in ((0, 7, [0, 1]), (0, 1, [0, 1]), (2, 3, [2, 3]), (6, 4, [3, 2]), (5, 5, [1, 1]),
                                   (12, 3, [4, 1]), (1, 9, [1, 9])):
            self.assertEqual(fraction(above, below), told)

    def test_asking_changes_nothing(self):
        begin = ("begin", 2, 3, 4, 5, 3)
        told = ask(begin, ("hour", 1, 0), *ASKED, *ASKED, ("fresh",), ("change", 0, 1, 1), ("change", 1, 1, 1),
                   ("room", 1))
        self.assertEqual(told[2:2 + len(ASKED)], told[2 + len(ASKED):2 + 2 * len(ASKED)])
        self.assertEqual(told[-4:], [[1], [2, 3], [4, 5], [3]])


if __name__ == "__main__":
    unittest.main()
