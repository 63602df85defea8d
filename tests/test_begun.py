"""Ahead of the points: what answers before a begin, which refusal is answered, and what a refusal leaves."""

import random
import unittest

from asking import NAMES, SIZES, TOP, ask, asking_calls, due, last
from mendedline.machines import Line, answer

BEGIN = ("begin", 2, 3, 4, 5, 3)

# A line at which nothing can be made better: mended by 9, breaking by 1, room for 6.
BEST = ("begin", 1, 9, 1, 9, 6)

# Each asks what a call might have spoilt; what only asks first, then hours, since room and fresh empty the room.
PROBES = (
    *asking_calls(3), ("hour", 0, 0), ("hour", 1, 0), ("hour", 1, 0), ("hour", 1, 0), ("hour", 1, 1), ("fresh",),
    ("change", 0, 1, 1), ("change", 1, 1, 1), ("room", 6),
)

REFUSED = (
    (("begin", 0, 3, 4, 5, 3), -22), (("begin", 10, 3, 4, 5, 3), -22),
    (("begin", 2, 0, 4, 5, 3), -22), (("begin", 2, 10, 4, 5, 3), -22),
    (("begin", 2, 3, 0, 5, 3), -22), (("begin", 2, 3, 10, 5, 3), -22),
    (("begin", 2, 3, 4, 0, 3), -22), (("begin", 2, 3, 4, 10, 3), -22),
    (("begin", 2, 3, 4, 5, 0), -22), (("begin", 2, 3, 4, 5, 7), -22),
    (("begin", TOP, TOP, TOP, TOP, TOP), -22), (("begin", 9, 9, 9, 9, TOP), -22),
    (("change", 2, 5, 5), -2), (("change", TOP, 5, 5), -2),
    (("change", 0, 0, 5), -22), (("change", 0, 10, 5), -22), (("change", 0, 5, 0), -22), (("change", 0, 5, 10), -22),
    (("change", 1, 0, 5), -22), (("change", 1, 10, 5), -22), (("change", 1, 5, 0), -22), (("change", 1, 5, 10), -22),
    (("change", 0, TOP, TOP), -22), (("change", 1, 9, TOP), -22),
    (("room", 0), -22), (("room", 7), -22), (("room", TOP), -22),
    (("hour", 2, 0), -22), (("hour", 0, 2), -22), (("hour", 2, 2), -22), (("hour", TOP, 1), -22),
    (("hour", 1, TOP), -22),
    (("rate", 2), -2), (("up", 2), -2), (("starved", 2), -2), (("blocked", 2), -2),
    (("rate", TOP), -2), (("up", TOP), -2), (("starved", TOP), -2), (("blocked", TOP), -2),
    (("long", 4, 0, 0), -22), (("long", TOP, 1, 1), -22), (("long", 0, 2, 0), -22), (("long", 3, TOP, 1), -22),
    (("long", 0, 0, 2), -22), (("long", 3, 1, TOP), -22), (("long", 4, 2, 2), -22),
    (("sooner", 2), -2), (("sooner", TOP), -2), (("fewer", 2), -2), (("fewer", TOP), -2),
    (("alone", 2), -2), (("alone", TOP), -2), (("soon", 6), -22), (("soon", TOP), -22), (("free",), -16),
)

REFUSED_AT_BEST = (
    (("more",), -28), (("sooner", 0), -17), (("sooner", 1), -17), (("fewer", 0), -17), (("fewer", 1), -17),
    (("sooner", 2), -2), (("fewer", 2), -2), (("alone", 2), -2), (("long", 7, 0, 0), -22), (("soon", 6), -22),
)


class BeforeBegin(unittest.TestCase):
    def test_all_others_answer_not_begun(self):
        for name in NAMES[1:]:
            for value in (0, 1, 2, TOP):
                call = (name,) + (value,) * SIZES.get(name, 0)
                self.assertEqual(ask(call), [[-11]], call)

    def test_each_call_takes_just_its_own_numbers(self):
        for name in NAMES[1:]:
            call = (name,) + (TOP,) * SIZES.get(name, 0)
            self.assertEqual(ask(call, BEGIN, ("fresh",)), [[-11], [0], [0]], call)

    def test_a_refused_begin_begins_nothing(self):
        for name in NAMES[1:]:
            call = (name,) + (1,) * SIZES.get(name, 0)
            self.assertEqual(ask(("begin", 0, 1, 1, 1, 1), call), [[-22], [-11]])

    def test_not_begun_goes_ahead_of_all_other_refusals(self):
        calls = (("change", 2, 0, 0), ("rate", 2), ("hour", 2, 2), ("room", 9), ("long", 9, 9, 9), ("sooner", 2),
                 ("fewer", 2), ("alone", 2), ("soon", 9))
        self.assertEqual(ask(*calls), [[-11]] * len(calls))

    def test_begin_then_all_answer(self):
        for name in NAMES[1:]:
            call = (name,) + (1,) * SIZES.get(name, 0)
            self.assertGreaterEqual(last(("begin", 2, 8, 4, 6, 3), call)[0], 0, call)

    def test_a_begin_before_may_have_been_refused(self):
        self.assertEqual(ask(("out",), ("begin", 1, 1, 1, 1, 7), BEGIN, ("fresh",)), [[-11], [-22], [0], [0]])


class Refusals(unittest.TestCase):
    def test_each_answers_its_number_alone(self):
        for call, number in REFUSED:
            self.assertEqual(ask(BEGIN, call), [[0], [number]], call)
        for call, number in REFUSED_AT_BEST:
            self.assertEqual(ask(BEST, call), [[0], [number]], call)

    def test_no_such_machine_goes_ahead_of_out_of_range(self):
        for call in (("change", 2, 0, 5), ("change", 2, 5, 10), ("change", TOP, TOP, TOP)):
            self.assertEqual(last(BEGIN, call), [-2], call)

    def test_no_such_machine_goes_first_in_every_call_that_names_one(self):
        for name in ("change", "rate", "up", "starved", "blocked", "sooner", "fewer", "alone"):
            call = (name, 2) + (0,) * (SIZES[name] - 1)
            self.assertEqual(last(BEGIN, call), [-2], call)
            self.assertEqual(last(BEST, call), [-2], call)

    def test_a_refusal_changes_no_later_answer(self):
        for begin, refused in ((BEGIN, REFUSED), (BEST, REFUSED_AT_BEST)):
            before = (begin, ("hour", 1, 0), ("hour", 1, 1), ("hour", 1, 0), ("hour", 0, 1))
            unspoilt = ask(*before, *PROBES)[len(before):]
            for call, number in refused:
                spoilt = ask(*before, call, *PROBES)[len(before):]
                self.assertEqual(spoilt, [[number]] + unspoilt, call)

    def test_a_refusal_changes_nothing_that_is_kept(self):
        for begin, refused in ((BEGIN, REFUSED), (BEST, REFUSED_AT_BEST)):
            line = Line()
            answer(line, 0, list(begin[1:]))
            answer(line, 3, [1, 0])
            kept = {name: repr(value) for name, value in vars(line).items()}
            for call, number in refused:
                self.assertEqual(answer(line, NAMES.index(call[0]), list(call[1:])), [number])
                self.assertEqual({name: repr(value) for name, value in vars(line).items()}, kept, call)


class InAnyOrder(unittest.TestCase):
    """Long lists of calls, drawn with a fixed seed: what is right and what is refused, mixed."""

    def drawn(self, source, name):
        size = SIZES.get(name, 0)
        if name == "begin":
            return (name, *[source.randint(1, 9) for _ in range(4)], source.randint(1, 6))
        if name == "change":
            return (name, source.randint(0, 1), source.randint(1, 9), source.randint(1, 9))
        return (name, *[source.choice((0, 1, 1, 2, 3)) for _ in range(size)])

    def spoilt(self, source, call):
        if len(call) == 1:
            return call
        numbers = list(call[1:])
        numbers[source.randrange(len(numbers))] = source.choice((0, 2, 6, 7, 10, TOP))
        return (call[0], *numbers)

    def test_as_the_model_answers(self):
        for seed in range(8):
            source = random.Random(seed)
            calls = []
            while len(calls) < 400:
                # Hours most of all, so that the room fills and empties between the other calls.
                name = source.choice(NAMES + ("hour",) * 12)
                call = self.drawn(source, name)
                calls.append(self.spoilt(source, call) if source.random() < 0.1 else call)
            answered = ask(*calls)
            for at, row in enumerate(due(*calls)):
                self.assertEqual(answered[at], row, (seed, at, calls[at]))


if __name__ == "__main__":
    unittest.main()
