"""Point 2: hour."""

import unittest

from asking import ask, last
from model import work


def with_pieces(holds, pieces):
    return (("begin", 2, 3, 4, 5, holds),) + (("hour", 1, 0),) * pieces


class Hour(unittest.TestCase):
    def test_every_hour_in_every_room(self):
        for holds in range(1, 7):
            for pieces in range(holds + 1):
                for x in (0, 1):
                    for y in (0, 1):
                        first, second = work(pieces, holds, x == 1, y == 1)
                        told = last(*with_pieces(holds, pieces), ("hour", x, y))
                        self.assertEqual(told, [int(second), int(first), pieces + first - second])

    def test_both_up_and_empty_the_second_is_starved(self):
        self.assertEqual(last(*with_pieces(1, 0), ("hour", 1, 1)), [0, 1, 1])

    def test_a_full_room_while_the_second_works_lets_the_first_work(self):
        for holds in range(1, 7):
            self.assertEqual(last(*with_pieces(holds, holds), ("hour", 1, 1)), [1, 1, holds])

    def test_a_full_room_while_the_second_is_down_blocks_the_first(self):
        for holds in range(1, 7):
            self.assertEqual(last(*with_pieces(holds, holds), ("hour", 1, 0)), [0, 0, holds])

    def test_both_down_nothing_moves(self):
        for pieces in range(4):
            self.assertEqual(last(*with_pieces(3, pieces), ("hour", 0, 0)), [0, 0, pieces])

    def test_the_second_alone_empties_the_room(self):
        told = ask(*with_pieces(3, 3), *[("hour", 0, 1)] * 4)[-4:]
        self.assertEqual(told, [[1, 0, 2], [1, 0, 1], [1, 0, 0], [0, 0, 0]])

    def test_hours_go_on_from_one_another(self):
        told = ask(("begin", 1, 1, 1, 1, 2), ("hour", 1, 1), ("hour", 1, 1), ("hour", 1, 0), ("hour", 1, 0),
                   ("hour", 1, 1), ("hour", 0, 1), ("hour", 0, 0), ("hour", 0, 1), ("hour", 0, 1))
        self.assertEqual(told[1:], [[0, 1, 1], [1, 1, 1], [0, 1, 2], [0, 0, 2], [1, 1, 2], [1, 0, 1], [0, 0, 1],
                                    [1, 0, 0], [0, 0, 0]])

    def test_an_hour_leaves_the_long_run(self):
        asked = (("out",), ("mean",), ("full",))
        begin = ("begin", 2, 3, 4, 5, 3)
        self.assertEqual(ask(begin, ("hour", 1, 0), ("hour", 0, 0), *asked)[-3:], ask(begin, *asked)[-3:])


if __name__ == "__main__":
    unittest.main()
