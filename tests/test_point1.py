"""Point 1: begin, set (the call change), room, turn, fresh, state."""

import unittest

from asking import ask, asking_calls, last

BEGIN = ("begin", 2, 3, 4, 5, 3)
UPS = ((0, 0), (0, 1), (1, 0), (1, 1))


class Begin(unittest.TestCase):
    def test_answers_0_for_all_chances_and_rooms_in_range(self):
        for tenth in range(1, 10):
            for at in range(4):
                chances = [5, 5, 5, 5]
                chances[at] = tenth
                for holds in range(1, 7):
                    self.assertEqual(ask(("begin", *chances, holds)), [[0]])

    def test_each_chance_comes_to_its_place(self):
        self.assertEqual(ask(BEGIN, ("change", 0, 9, 9), ("change", 1, 9, 9)), [[0], [2, 3], [4, 5]])

    def test_the_room_holds_what_is_told_and_is_empty(self):
        for holds in range(1, 7):
            told = ask(("begin", 1, 1, 1, 1, holds), ("fresh",), ("room", 1))
            self.assertEqual(told, [[0], [0], [holds]])

    def test_a_second_begin_begins_anew(self):
        told = ask(BEGIN, ("hour", 1, 0), ("hour", 1, 0), ("begin", 9, 8, 7, 6, 5), ("fresh",),
                   ("change", 0, 1, 1), ("change", 1, 1, 1), ("room", 1))
        self.assertEqual(told[3:], [[0], [0], [9, 8], [7, 6], [5]])

    def test_both_were_up(self):
        self.assertEqual(last(BEGIN, ("now",)), [0, 1, 1])
        for ups in UPS:
            self.assertEqual(last(BEGIN, ("hour", *ups), BEGIN, ("now",)), [0, 1, 1])

    def test_a_second_begin_changes_the_long_run(self):
        self.assertEqual(last(BEGIN, ("out",), ("begin", 5, 5, 5, 5, 1), ("out",)), [0, 1, 3])


class Change(unittest.TestCase):
    def test_answers_what_was_and_keeps_what_is_told(self):
        told = ask(BEGIN, ("change", 0, 6, 7), ("change", 0, 1, 9), ("change", 1, 9, 1), ("change", 1, 4, 4),
                   ("change", 0, 4, 4))
        self.assertEqual(told, [[0], [2, 3], [6, 7], [4, 5], [9, 1], [1, 9]])

    def test_the_other_machine_keeps_its_chances(self):
        for machine, chances in ((0, [7, 1, 4, 5]), (1, [2, 3, 7, 1])):
            self.assertEqual(last(BEGIN, ("change", machine, 7, 1), ("state",)), [3] + chances)

    def test_the_edges_are_taken(self):
        for machine in (0, 1):
            told = ask(BEGIN, ("change", machine, 1, 9), ("change", machine, 9, 1), ("change", machine, 5, 5))
            self.assertEqual(told[2:], [[1, 9], [9, 1]])

    def test_leaves_the_room_and_its_pieces(self):
        told = ask(BEGIN, ("hour", 1, 0), ("hour", 1, 0), ("change", 0, 1, 1), ("change", 1, 1, 1), ("fresh",),
                   ("room", 1))
        self.assertEqual(told[-2:], [[2], [3]])

    def test_leaves_who_was_up(self):
        for ups in UPS:
            told = last(BEGIN, ("hour", 1, 0), ("hour", *ups), ("change", 0, 1, 1), ("change", 1, 1, 1), ("now",))
            self.assertEqual(told, [1 + ups[0] - ups[1], *ups])

    def test_the_long_run_is_as_if_begun_so(self):
        for machine, chances in ((0, (7, 1, 4, 5)), (1, (2, 3, 7, 1))):
            asked = (("out",), ("mean",), ("full",))
            changed = ask(BEGIN, ("out",), ("change", machine, 7, 1), *asked)[-3:]
            self.assertEqual(changed, ask(("begin", *chances, 3), *asked)[-3:])
            back = ask(BEGIN, ("change", machine, 7, 1), ("out",), ("change", machine, *BEGIN[1:][2 * machine:][:2]),
                       *asked)[-3:]
            self.assertEqual(back, ask(BEGIN, *asked)[-3:])


class Room(unittest.TestCase):
    def test_answers_what_it_held(self):
        told = ask(BEGIN, ("room", 1), ("room", 2), ("room", 3), ("room", 4), ("room", 5), ("room", 6), ("room", 1))
        self.assertEqual(told[1:], [[3], [1], [2], [3], [4], [5], [6]])

    def test_what_it_held_is_not_what_lay_there(self):
        self.assertEqual(last(BEGIN, ("hour", 1, 0), ("room", 2)), [3])

    def test_is_empty_behind_it_even_where_it_holds_as_many(self):
        for holds in (1, 3, 6):
            self.assertEqual(last(BEGIN, ("hour", 1, 0), ("hour", 1, 0), ("room", holds), ("fresh",)), [0])

    def test_holds_so_many(self):
        for holds in range(1, 7):
            hours = [("hour", 1, 0)] * 8
            lying = [told[2] for told in ask(BEGIN, ("room", holds), *hours)[2:]]
            self.assertEqual(lying, [min(k, holds) for k in range(1, 9)])

    def test_leaves_chances_and_who_was_up(self):
        for ups in UPS:
            told = ask(BEGIN, ("hour", 1, 0), ("hour", *ups), ("room", 4), ("now",), ("state",))
            self.assertEqual(told[-2:], [[0, *ups], [4, 2, 3, 4, 5]])

    def test_the_long_run_is_as_if_begun_so(self):
        for holds in range(1, 7):
            asked = (("out",), ("mean",), ("full",), ("blocked", 0))
            changed = ask(BEGIN, ("out",), ("room", holds), *asked)[-4:]
            self.assertEqual(changed, ask(("begin", 2, 3, 4, 5, holds), *asked)[-4:])


class Fresh(unittest.TestCase):
    def test_answers_how_many_lay_there_and_empties(self):
        for count in range(4):
            told = ask(BEGIN, *[("hour", 1, 0)] * count, ("fresh",), ("fresh",))
            self.assertEqual(told[-2:], [[count], [0]])

    def test_both_were_up(self):
        for ups in UPS:
            self.assertEqual(last(BEGIN, ("hour", 1, 0), ("hour", *ups), ("fresh",), ("now",)), [0, 1, 1])

    def test_leaves_chances_and_what_the_room_holds(self):
        told = ask(BEGIN, ("hour", 1, 0), ("fresh",), ("change", 0, 1, 1), ("change", 1, 1, 1), ("room", 1))
        self.assertEqual(told[-3:], [[2, 3], [4, 5], [3]])
        self.assertEqual(last(BEGIN, ("hour", 1, 0), ("fresh",), ("state",)), [3, 2, 3, 4, 5])


class Turn(unittest.TestCase):
    def test_answers_what_the_room_holds(self):
        for holds in range(1, 7):
            told = ask(("begin", 2, 3, 4, 5, holds), ("hour", 1, 0), ("turn",), ("turn",))
            self.assertEqual(told[-2:], [[holds], [holds]])

    def test_the_second_is_the_first(self):
        self.assertEqual(ask(BEGIN, ("turn",), ("state",))[-1], [3, 4, 5, 2, 3])
        self.assertEqual(ask(BEGIN, ("turn",), ("change", 0, 1, 1), ("state",))[-2:], [[4, 5], [3, 1, 1, 2, 3]])

    def test_the_room_is_empty_and_both_were_up(self):
        for ups in UPS:
            self.assertEqual(last(BEGIN, ("hour", 1, 0), ("hour", *ups), ("turn",), ("now",)), [0, 1, 1])

    def test_all_is_as_if_begun_so(self):
        for chances, holds in (((2, 3, 4, 5), 3), ((1, 9, 9, 1), 1), ((7, 3, 6, 4), 6)):
            b1, r1, b2, r2 = chances
            hours = (("hour", 1, 0), ("hour", 0, 0), ("hour", 1, 1))
            turned = ask(("begin", *chances, holds), ("out",), ("hour", 1, 0), ("turn",), *hours, *asking_calls(holds))
            begun = ask(("begin", b2, r2, b1, r1, holds), *hours, *asking_calls(holds))
            self.assertEqual(turned[4:], begun[1:])

    def test_turned_round_twice(self):
        twice = ask(BEGIN, ("hour", 1, 0), ("turn",), ("hour", 1, 0), ("turn",), *asking_calls(3))[5:]
        self.assertEqual(twice, ask(BEGIN, *asking_calls(3))[1:])

    def test_two_alike_stay_as_they_are(self):
        self.assertEqual(last(("begin", 6, 2, 6, 2, 4), ("turn",), ("state",)), [4, 6, 2, 6, 2])


class State(unittest.TestCase):
    def test_answers_what_the_room_holds_then_the_four_chances(self):
        for chances in ((1, 2, 3, 4), (9, 8, 7, 6), (1, 9, 9, 1)):
            for holds in range(1, 7):
                self.assertEqual(last(("begin", *chances, holds), ("state",)), [holds, *chances])

    def test_tells_what_was_changed_behind_begin(self):
        told = ask(BEGIN, ("change", 1, 8, 9), ("state",), ("room", 6), ("state",), ("change", 0, 7, 1), ("state",))
        self.assertEqual(told[2::2], [[3, 2, 3, 8, 9], [6, 2, 3, 8, 9], [6, 7, 1, 8, 9]])

    def test_does_not_hang_on_pieces(self):
        self.assertEqual(last(BEGIN, ("hour", 1, 0), ("hour", 0, 0), ("state",)), [3, 2, 3, 4, 5])


if __name__ == "__main__":
    unittest.main()
