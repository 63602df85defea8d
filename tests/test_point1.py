"""Point 1: begin, set (the call change), room, fresh."""

import unittest

from asking import ask, last
from mendedline.machines import Line, answer

BEGIN = ("begin", 2, 3, 4, 5, 3)


def was_up(line):
    return [line.first, line.second]


class Begin(unittest.TestCase):
    def test_answers_0_for_all_chances_and_rooms_in_range(self):
        for tenth in range(1, 10):
            for at in range(4):
                chances = [5, 5, 5, 5]
                chances[at] = tenth
                for holds in range(1, 7):
                    self.assertEqual(ask(("begin", *chances, holds)), [[0]])

    def test_each_chance_comes_to_its_place(self):
        self.assertEqual(ask(BEGIN, ("change", 0, 9, 9), ("change", 1, 9, 9)), [[0], [2, 3], [4, 5]])

    def test_the_room_holds_what_is_told_and_is_empty(self):
        for holds in range(1, 7):
            told = ask(("begin", 1, 1, 1, 1, holds), ("fresh",), ("room", 1))
            self.assertEqual(told, [[0], [0], [holds]])

    def test_a_second_begin_begins_anew(self):
        told = ask(BEGIN, ("hour", 1, 0), ("hour", 1, 0), ("begin", 9, 8, 7, 6, 5), ("fresh",),
                   ("change", 0, 1, 1), ("change", 1, 1, 1), ("room", 1))
        self.assertEqual(told[3:], [[0], [0], [9, 8], [7, 6], [5]])

    def test_both_were_up(self):
        line = Line()
        answer(line, 0, [2, 3, 4, 5, 3])
        self.assertEqual(was_up(line), [1, 1])
        answer(line, 3, [0, 0])
        answer(line, 0, [2, 3, 4, 5, 3])
        self.assertEqual(was_up(line), [1, 1])

    def test_a_second_begin_changes_the_long_run(self):
        self.assertEqual(last(BEGIN, ("out",), ("begin", 5, 5, 5, 5, 1), ("out",)), [0, 1, 3])


class Change(unittest.TestCase):
    def test_answers_what_was_and_keeps_what_is_told(self):
        told = ask(BEGIN, ("change", 0, 6, 7), ("change", 0, 1, 9), ("change", 1, 9, 1), ("change", 1, 4, 4),
                   ("change", 0, 4, 4))
        self.assertEqual(told, [[0], [2, 3], [6, 7], [4, 5], [9, 1], [1, 9]])

    def test_the_other_machine_keeps_its_chances(self):
        for machine, chances in ((0, [7, 1, 4, 5]), (1, [2, 3, 7, 1])):
            line = Line()
            answer(line, 0, [2, 3, 4, 5, 3])
            answer(line, 1, [machine, 7, 1])
            self.assertEqual(line.chances, chances)

    def test_the_edges_are_taken(self):
        for machine in (0, 1):
            told = ask(BEGIN, ("change", machine, 1, 9), ("change", machine, 9, 1), ("change", machine, 5, 5))
            self.assertEqual(told[2:], [[1, 9], [9, 1]])

    def test_leaves_the_room_and_its_pieces(self):
        told = ask(BEGIN, ("hour", 1, 0), ("hour", 1, 0), ("change", 0, 1, 1), ("change", 1, 1, 1), ("fresh",),
                   ("room", 1))
        self.assertEqual(told[-2:], [[2], [3]])

    def test_leaves_who_was_up(self):
        for ups in ([0, 0], [0, 1], [1, 0], [1, 1]):
            line = Line()
            answer(line, 0, [2, 3, 4, 5, 3])
            answer(line, 3, ups)
            answer(line, 1, [0, 1, 1])
            answer(line, 1, [1, 1, 1])
            self.assertEqual(was_up(line), ups)

    def test_the_long_run_is_as_if_begun_so(self):
        for machine, chances in ((0, (7, 1, 4, 5)), (1, (2, 3, 7, 1))):
            asked = (("out",), ("mean",), ("full",))
            changed = ask(BEGIN, ("out",), ("change", machine, 7, 1), *asked)[-3:]
            self.assertEqual(changed, ask(("begin", *chances, 3), *asked)[-3:])
            back = ask(BEGIN, ("change", machine, 7, 1), ("out",), ("change", machine, *BEGIN[1:][2 * machine:][:2]),
                       *asked)[-3:]
            self.assertEqual(back, ask(BEGIN, *asked)[-3:])


class Room(unittest.TestCase):
    def test_answers_what_it_held(self):
        told = ask(BEGIN, ("room", 1), ("room", 2), ("room", 3), ("room", 4), ("room", 5), ("room", 6), ("room", 1))
        self.assertEqual(told[1:], [[3], [1], [2], [3], [4], [5], [6]])

    def test_what_it_held_is_not_what_lay_there(self):
        self.assertEqual(last(BEGIN, ("hour", 1, 0), ("room", 2)), [3])

    def test_is_empty_behind_it_even_where_it_holds_as_many(self):
        for holds in (1, 3, 6):
            self.assertEqual(last(BEGIN, ("hour", 1, 0), ("hour", 1, 0), ("room", holds), ("fresh",)), [0])

    def test_holds_so_many(self):
        for holds in range(1, 7):
            hours = [("hour", 1, 0)] * 8
            lying = [told[2] for told in ask(BEGIN, ("room", holds), *hours)[2:]]
            self.assertEqual(lying, [min(k, holds) for k in range(1, 9)])

    def test_leaves_chances_and_who_was_up(self):
        line = Line()
        answer(line, 0, [2, 3, 4, 5, 3])
        answer(line, 3, [0, 0])
        answer(line, 2, [4])
        self.assertEqual(was_up(line), [0, 0])
        self.assertEqual(answer(line, 1, [0, 1, 1]), [2, 3])
        self.assertEqual(answer(line, 1, [1, 1, 1]), [4, 5])

    def test_the_long_run_is_as_if_begun_so(self):
        for holds in range(1, 7):
            asked = (("out",), ("mean",), ("full",), ("blocked", 0))
            changed = ask(BEGIN, ("out",), ("room", holds), *asked)[-4:]
            self.assertEqual(changed, ask(("begin", 2, 3, 4, 5, holds), *asked)[-4:])


class Fresh(unittest.TestCase):
    def test_answers_how_many_lay_there_and_empties(self):
        for count in range(4):
            told = ask(BEGIN, *[("hour", 1, 0)] * count, ("fresh",), ("fresh",))
            self.assertEqual(told[-2:], [[count], [0]])

    def test_both_were_up(self):
        for ups in ([0, 0], [0, 1], [1, 0], [1, 1]):
            line = Line()
            answer(line, 0, [2, 3, 4, 5, 3])
            answer(line, 3, ups)
            self.assertEqual(was_up(line), ups)
            answer(line, 4, [])
            self.assertEqual(was_up(line), [1, 1])

    def test_leaves_chances_and_what_the_room_holds(self):
        told = ask(BEGIN, ("hour", 1, 0), ("fresh",), ("change", 0, 1, 1), ("change", 1, 1, 1), ("room", 1))
        self.assertEqual(told[-3:], [[2, 3], [4, 5], [3]])


if __name__ == "__main__":
    unittest.main()
