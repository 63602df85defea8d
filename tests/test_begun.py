"""Ahead of the points: what answers before a begin, which refusal is answered, and what a refusal leaves."""

import unittest

from asking import BUILT, NAMES, SIZES, TOP, ask, last
from mendedline.machines import Line, answer

BEGIN = ("begin", 2, 3, 4, 5, 3)

# Each asks what a call might have spoilt; hours first, since room and fresh empty the room.
PROBES = (
    ("hour", 0, 0), ("hour", 1, 0), ("hour", 1, 0), ("hour", 1, 0), ("hour", 1, 1), ("fresh",),
    ("out",), ("rate", 0), ("mean",), ("full",), ("change", 0, 1, 1), ("change", 1, 1, 1), ("room", 6),
)

REFUSED = (
    (("begin", 0, 3, 4, 5, 3), -22), (("begin", 10, 3, 4, 5, 3), -22),
    (("begin", 2, 0, 4, 5, 3), -22), (("begin", 2, 10, 4, 5, 3), -22),
    (("begin", 2, 3, 0, 5, 3), -22), (("begin", 2, 3, 10, 5, 3), -22),
    (("begin", 2, 3, 4, 0, 3), -22), (("begin", 2, 3, 4, 10, 3), -22),
    (("begin", 2, 3, 4, 5, 0), -22), (("begin", 2, 3, 4, 5, 7), -22),
    (("begin", TOP, TOP, TOP, TOP, TOP), -22), (("begin", 9, 9, 9, 9, TOP), -22),
    (("change", 2, 5, 5), -2), (("change", TOP, 5, 5), -2),
    (("change", 0, 0, 5), -22), (("change", 0, 10, 5), -22), (("change", 0, 5, 0), -22), (("change", 0, 5, 10), -22),
    (("change", 1, 0, 5), -22), (("change", 1, 10, 5), -22), (("change", 1, 5, 0), -22), (("change", 1, 5, 10), -22),
    (("change", 0, TOP, TOP), -22), (("change", 1, 9, TOP), -22),
    (("room", 0), -22), (("room", 7), -22), (("room", TOP), -22),
    (("hour", 2, 0), -22), (("hour", 0, 2), -22), (("hour", 2, 2), -22), (("hour", TOP, 1), -22),
    (("hour", 1, TOP), -22),
    (("rate", 2), -2), (("up", 2), -2), (("starved", 2), -2), (("blocked", 2), -2),
    (("rate", TOP), -2), (("up", TOP), -2), (("starved", TOP), -2), (("blocked", TOP), -2),
)


class BeforeBegin(unittest.TestCase):
    def test_all_others_answer_not_begun(self):
        for name in NAMES[1:]:
            for value in (0, 1, 2, TOP):
                call = (name,) + (value,) * SIZES.get(name, 0)
                self.assertEqual(ask(call), [[-11]], call)

    def test_each_call_takes_just_its_own_numbers(self):
        for name in NAMES[1:]:
            call = (name,) + (TOP,) * SIZES.get(name, 0)
            self.assertEqual(ask(call, BEGIN, ("fresh",)), [[-11], [0], [0]], call)

    def test_a_refused_begin_begins_nothing(self):
        for name in NAMES[1:]:
            call = (name,) + (1,) * SIZES.get(name, 0)
            self.assertEqual(ask(("begin", 0, 1, 1, 1, 1), call), [[-22], [-11]])

    def test_not_begun_goes_ahead_of_all_other_refusals(self):
        self.assertEqual(ask(("change", 2, 0, 0), ("rate", 2), ("hour", 2, 2), ("room", 9)), [[-11]] * 4)

    def test_begin_then_all_answer(self):
        for name in BUILT[1:]:
            call = (name,) + (1,) * SIZES.get(name, 0)
            self.assertGreaterEqual(last(BEGIN, call)[0], 0, call)

    def test_a_begin_before_may_have_been_refused(self):
        self.assertEqual(ask(("out",), ("begin", 1, 1, 1, 1, 7), BEGIN, ("fresh",)), [[-11], [-22], [0], [0]])


class Refusals(unittest.TestCase):
    def test_each_answers_its_number_alone(self):
        for call, number in REFUSED:
            self.assertEqual(ask(BEGIN, call), [[0], [number]], call)

    def test_no_such_machine_goes_ahead_of_out_of_range(self):
        for call in (("change", 2, 0, 5), ("change", 2, 5, 10), ("change", TOP, TOP, TOP)):
            self.assertEqual(last(BEGIN, call), [-2], call)

    def test_no_such_machine_goes_first_in_every_call_that_names_one(self):
        for name in ("change", "rate", "up", "starved", "blocked", "sooner", "fewer", "alone"):
            call = (name, 2) + (0,) * (SIZES[name] - 1)
            self.assertEqual(last(BEGIN, call), [-2], call)

    def test_a_refusal_changes_no_later_answer(self):
        before = (BEGIN, ("hour", 1, 0), ("hour", 1, 1), ("out",))
        unspoilt = ask(*before, *PROBES)[len(before):]
        for call, number in REFUSED:
            spoilt = ask(*before, call, *PROBES)[len(before):]
            self.assertEqual(spoilt, [[number]] + unspoilt, call)

    def test_a_refusal_changes_nothing_that_is_kept(self):
        line = Line()
        answer(line, 0, [2, 3, 4, 5, 3])
        answer(line, 3, [1, 0])
        kept = {name: repr(value) for name, value in vars(line).items()}
        for call, number in REFUSED:
            self.assertEqual(answer(line, NAMES.index(call[0]), list(call[1:])), [number])
            self.assertEqual({name: repr(value) for name, value in vars(line).items()}, kept, call)


if __name__ == "__main__":
    unittest.main()
