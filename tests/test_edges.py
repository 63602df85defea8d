"""Where it usually breaks: every call that asks, at each of the places that the document names, against the model."""

import unittest
from itertools import product

from asking import ask, asking_calls, due

SOME = ((2, 3, 4, 5), (1, 9, 9, 1), (7, 3, 2, 6))


class Edges(unittest.TestCase):
    def same(self, chances, holds, *before):
        calls = (("begin", *chances, holds), *before, *asking_calls(holds))
        for call, answered, row in zip(calls, ask(*calls), due(*calls), strict=True):
            self.assertEqual(answered, row, (chances, holds, before, call))

    def test_room_for_one(self):
        for chances in product((1, 4, 9), (1, 6), (2, 9), (1, 7, 9)):
            self.same(chances, 1)

    def test_every_room(self):
        for holds in range(1, 7):
            for chances in SOME:
                self.same(chances, holds)

    def test_chances_that_are_10_together(self):
        for holds in (1, 2, 6):
            for first, second in ((1, 1), (1, 9), (9, 1), (9, 9), (5, 5), (3, 8)):
                self.same((10 - first, first, 10 - second, second), holds)

    def test_of_one_alone_they_are_10_together(self):
        for holds in (1, 4):
            self.same((7, 3, 1, 2), holds)
            self.same((1, 2, 7, 3), holds)

    def test_nearly_never_breaks(self):
        for holds in (1, 3, 6):
            self.same((1, 9, 4, 5), holds)
            self.same((4, 5, 1, 9), holds)
            self.same((1, 9, 1, 9), holds)

    def test_nearly_never_mended(self):
        for holds in (1, 3, 6):
            self.same((9, 1, 4, 5), holds)
            self.same((4, 5, 9, 1), holds)
            self.same((9, 1, 9, 1), holds)

    def test_nearly_always_as_it_was_or_as_it_was_not(self):
        for holds in (1, 6):
            for chances in ((1, 1, 1, 1), (9, 9, 9, 9), (1, 1, 9, 9), (9, 9, 1, 1)):
                self.same(chances, holds)

    def test_two_alike(self):
        for holds in (1, 2, 5):
            for breaks, mended in ((1, 1), (2, 7), (9, 9), (9, 1), (5, 5)):
                self.same((breaks, mended, breaks, mended), holds)

    def test_a_full_room_while_the_second_works(self):
        for holds in range(1, 7):
            filled = [("hour", 1, 0)] * holds
            for chances in SOME:
                self.same(chances, holds, *filled)
                self.same(chances, holds, *filled, ("hour", 1, 1))
                self.same(chances, holds, *filled, ("hour", 0, 1))

    def test_from_a_state_that_can_not_come_from_others(self):
        for holds in (1, 3, 6):
            # Behind begin nothing lies there though both were up; room empties what the first has filled.
            self.same((2, 3, 4, 5), holds)
            self.same((2, 3, 4, 5), holds, ("hour", 1, 0), ("room", holds))

    def test_both_down(self):
        for chances in SOME:
            for pieces in range(4):
                self.same(chances, 3, *[("hour", 1, 0)] * pieces, ("hour", 0, 0), ("hour", 0, 0))

    def test_turned_round_twice(self):
        for chances in SOME:
            self.same(chances, 2, ("hour", 1, 0), ("turn",))
            self.same(chances, 2, ("hour", 1, 0), ("turn",), ("hour", 1, 0), ("turn",))
            self.same(chances, 2, ("turn",), ("turn",), ("hour", 1, 0), ("hour", 0, 0))

    def test_changed_in_the_midst_of_it(self):
        for chances in SOME:
            self.same(chances, 3, ("hour", 1, 0), ("out",), ("change", 0, 9, 2), ("hour", 1, 0), ("change", 1, 1, 8))


if __name__ == "__main__":
    unittest.main()
