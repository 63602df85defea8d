"""Point 2: hour, now, soon."""

import unittest
from itertools import product

from asking import ask, due, last
from model import work


def with_pieces(holds, pieces):
    return (("begin", 2, 3, 4, 5, holds),) + (("hour", 1, 0),) * pieces


class Hour(unittest.TestCase):
    def test_every_hour_in_every_room(self):
        for holds in range(1, 7):
            for pieces in range(holds + 1):
                for x in (0, 1):
                    for y in (0, 1):
                        first, second = work(pieces, holds, x == 1, y == 1)
                        told = last(*with_pieces(holds, pieces), ("hour", x, y))
                        self.assertEqual(told, [int(second), int(first), pieces + first - second])

    def test_both_up_and_empty_the_second_is_starved(self):
        self.assertEqual(last(*with_pieces(1, 0), ("hour", 1, 1)), [0, 1, 1])

    def test_a_full_room_while_the_second_works_lets_the_first_work(self):
        for holds in range(1, 7):
            self.assertEqual(last(*with_pieces(holds, holds), ("hour", 1, 1)), [1, 1, holds])

    def test_a_full_room_while_the_second_is_down_blocks_the_first(self):
        for holds in range(1, 7):
            self.assertEqual(last(*with_pieces(holds, holds), ("hour", 1, 0)), [0, 0, holds])

    def test_both_down_nothing_moves(self):
        for pieces in range(4):
            self.assertEqual(last(*with_pieces(3, pieces), ("hour", 0, 0)), [0, 0, pieces])

    def test_the_second_alone_empties_the_room(self):
        told = ask(*with_pieces(3, 3), *[("hour", 0, 1)] * 4)[-4:]
        self.assertEqual(told, [[1, 0, 2], [1, 0, 1], [1, 0, 0], [0, 0, 0]])

    def test_hours_go_on_from_one_another(self):
        told = ask(("begin", 1, 1, 1, 1, 2), ("hour", 1, 1), ("hour", 1, 1), ("hour", 1, 0), ("hour", 1, 0),
                   ("hour", 1, 1), ("hour", 0, 1), ("hour", 0, 0), ("hour", 0, 1), ("hour", 0, 1))
        self.assertEqual(told[1:], [[0, 1, 1], [1, 1, 1], [0, 1, 2], [0, 0, 2], [1, 1, 2], [1, 0, 1], [0, 0, 1],
                                    [1, 0, 0], [0, 0, 0]])

    def test_an_hour_leaves_the_long_run(self):
        asked = (("out",), ("mean",), ("full",))
        begin = ("begin", 2, 3, 4, 5, 3)
        self.assertEqual(ask(begin, ("hour", 1, 0), ("hour", 0, 0), *asked)[-3:], ask(begin, *asked)[-3:])


class Now(unittest.TestCase):
    def test_pieces_then_who_was_up(self):
        for pieces in range(4):
            for x, y in product((0, 1), repeat=2):
                behind = ask(*with_pieces(3, pieces), ("hour", x, y), ("now",))
                self.assertEqual(behind[-1], [behind[-2][2], x, y])

    def test_written_out(self):
        told = ask(("begin", 1, 1, 1, 1, 2), ("now",), ("hour", 1, 0), ("now",), ("hour", 1, 1), ("now",),
                   ("hour", 0, 0), ("now",), ("hour", 0, 1), ("now",), ("hour", 0, 1), ("now",))
        self.assertEqual(told[1::2], [[0, 1, 1], [1, 1, 0], [1, 1, 1], [1, 0, 0], [0, 0, 1], [0, 0, 1]])

    def test_up_is_told_where_the_machine_did_not_work(self):
        self.assertEqual(last(*with_pieces(1, 0), ("hour", 0, 1), ("now",)), [0, 0, 1])
        self.assertEqual(last(*with_pieces(1, 1), ("hour", 1, 0), ("now",)), [1, 1, 0])

    def test_asking_leaves_it(self):
        told = ask(*with_pieces(3, 2), ("now",), ("soon", 5), ("now",), ("hour", 0, 0))
        self.assertEqual([told[3], told[5], told[6]], [[2, 1, 0], [2, 1, 0], [0, 0, 2]])


class Soon(unittest.TestCase):
    def test_in_no_hours_nothing_comes_out(self):
        for pieces in range(4):
            self.assertEqual(last(*with_pieces(3, pieces), ("soon", 0)), [0, 0, 1])

    def test_from_an_empty_room_nothing_comes_out_in_an_hour(self):
        self.assertEqual(last(*with_pieces(3, 0), ("soon", 1)), [0, 0, 1])

    def test_in_two_hours_from_an_empty_room(self):
        # By hand: the first is up by 8/10; in the second hour the second is by 6/10 6/10 + 4/10 5/10.
        self.assertEqual(last(*with_pieces(3, 0), ("soon", 2)), [0, 56, 125])

    def test_in_an_hour_from_a_room_with_pieces_by_who_was_up(self):
        for pieces in (1, 2, 3):
            # By hand: the second is up by 5/10 if it was down, by 6/10 if it was up.
            self.assertEqual(last(*with_pieces(3, pieces), ("soon", 1)), [0, 1, 2])
            self.assertEqual(last(*with_pieces(3, pieces), ("hour", 1, 1), ("soon", 1)), [0, 3, 5])

    def test_the_room_may_be_too_small_for_what_the_first_brings(self):
        # By hand: with two pieces there the second alone tells what comes out in two hours; with one it may starve.
        self.assertEqual(last(("begin", 5, 5, 5, 5, 2), ("hour", 1, 0), ("hour", 1, 0), ("soon", 2)), [0, 1, 1])
        self.assertEqual(last(("begin", 5, 5, 5, 5, 1), ("hour", 1, 0), ("soon", 2)), [0, 7, 8])

    def test_every_state_that_hours_lead_to_and_every_n(self):
        for chances, holds in (((2, 3, 4, 5), 3), ((1, 9, 9, 1), 1), ((9, 1, 1, 9), 2), ((5, 5, 5, 5), 6)):
            begin = ("begin", *chances, holds)
            for pieces in range(holds + 1):
                for x, y in product((0, 1), repeat=2):
                    calls = [begin] + [("hour", 1, 0)] * pieces + [("hour", x, y)] + [("soon", n) for n in range(6)]
                    self.assertEqual(ask(*calls), due(*calls))

    def test_it_goes_by_the_chances_that_are_now(self):
        calls = (("begin", 2, 3, 4, 5, 3), ("hour", 1, 0), ("change", 1, 9, 9), ("soon", 1), ("soon", 3))
        self.assertEqual(ask(*calls)[-2], [0, 9, 10])
        self.assertEqual(ask(*calls), due(*calls))

    def test_above_5_is_refused(self):
        for n in (6, 7, 100, 4294967295):
            self.assertEqual(last(*with_pieces(3, 1), ("soon", n)), [-22])
        self.assertEqual(last(*with_pieces(3, 1), ("soon", 5))[0], 0)


if __name__ == "__main__":
    unittest.main()
