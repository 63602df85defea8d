"""The interface: how calls are handed in, how answers are given back, and what is left as it was."""

import unittest

from asking import NAMES, SIZES, apart, flat
from mendedline.machines import answers


def every_call():
    """Each call once, in their numbers' order, at a line that refuses none of them."""
    calls = [("begin", 2, 8, 4, 6, 3)]
    for name in NAMES[1:]:
        calls.append((name,) + (1,) * SIZES.get(name, 0))
    # The call change made the second's chances 1 and 1, with which fewer and free would be refused.
    calls[1] = ("change", 1, 3, 7)
    return flat(calls)


class Interface(unittest.TestCase):
    def test_numbers_in_and_numbers_out(self):
        # By hand: with 0, 1, 2 pieces the room weighs 1, 18, 162 where the first is up by 9 tenths, the second by 5.
        self.assertEqual(answers([5, 0, 5, 5, 5, 5, 1, 3, 1, 0, 1, 0, 1, 9, 4, 2, 2, 6, 7, 0, 5, 5, 5, 5, 0, 11]),
                         [1, -11, 1, 0, 3, 0, 1, 1, 2, 5, 5, 1, 1, 1, 1, 1, -2, 1, -22, 5, 0, 162, 181, 1, 181])

    def test_numbers_in_and_numbers_out_of_the_later_calls(self):
        # By hand: room for one and all chances 5, a piece lies there in 2 of 3 hours and comes out in 1 of 3.
        self.assertEqual(answers([0, 5, 5, 5, 5, 1, 12, 1, 0, 0, 12, 0, 1, 0, 13, 3, 1, 0, 22, 20, 1, 19, 1, 21, 16,
                                  15, 14, 22, 1, 0, 1, 9, 18, 0, 21, 17, 0, 17, 2, 23]),
                         [1, 0, 3, 0, 1, 6, 3, 0, 0, 1, 5, 0, 1, 4, 1, 4, 3, 0, 1, 1, 3, 1, 1, 0, 3, 0, 1, 2,
                          7, 0, 1, 2, 2, 1, 2, 1, 3, 0, 1, 3, 5, 0, 2, 5, 1, 3, 5, 0, 1, 3, 1, 3, 1, 1, 3, 0, 1, 1,
                          2, 5, 5, 1, -17, 3, 0, 9, 19, 1, -17, 1, -2, 5, 1, 1, 9, 5, 5])

    def test_one_call(self):
        self.assertEqual(answers([0, 1, 1, 1, 1, 1]), [1, 0])
        self.assertEqual(answers([10]), [1, -11])

    def test_every_number_is_an_int_and_no_bool(self):
        for number in answers(every_call()):
            self.assertIs(type(number), int)
        self.assertIs(type(answers(every_call())), list)

    def test_how_many_numbers_each_call_answers(self):
        sizes = [len(row) for row in apart(answers(every_call()), len(NAMES))]
        self.assertEqual(sizes, [1, 2, 1, 3, 1, 3, 3, 3, 3, 3, 3, 5, 3, 5, 1, 5, 5, 5, 5, 7, 3, 3, 3, 5])

    def test_what_is_handed_in_is_not_changed(self):
        calls = every_call()
        copy = list(calls)
        answers(calls)
        self.assertEqual(calls, copy)

    def test_what_is_handed_in_is_not_changed_for_a_while_either(self):
        class Watched(list):
            def refuse(self, *given):
                raise AssertionError("the list handed in was to be changed")

            append = extend = insert = pop = remove = clear = sort = reverse = refuse
            __setitem__ = __delitem__ = __iadd__ = __imul__ = refuse

        self.assertEqual(answers(Watched(every_call())), answers(every_call()))

    def test_nothing_is_kept_from_one_time_to_the_next(self):
        once = answers(every_call())
        self.assertEqual(answers([5]), [1, -11])
        answers(flat([("begin", 9, 1, 9, 1, 6), ("hour", 1, 0), ("out",)]))
        self.assertEqual(answers([4]), [1, -11])
        self.assertEqual(answers(every_call()), once)

    def test_what_is_given_back_may_be_changed(self):
        once = answers(every_call())
        again = answers(every_call())
        again.clear()
        self.assertEqual(answers(every_call()), once)

    def test_400_calls(self):
        calls = [("begin", 1, 2, 3, 4, 6)]
        for k in range(199):
            calls.append(("change", k % 2, k % 9 + 1, k // 9 % 9 + 1))
            calls.append(("full",))
        calls.append(("out",))
        rows = apart(answers(flat(calls)), 400)
        self.assertEqual(len(rows[-1]), 3)

    def test_400_calls_that_each_ask_of_another_line(self):
        calls = [("begin", 5, 4, 5, 4, 5)]
        for k in range(133):
            calls.append(("change", k % 2, k % 8 + 2, k // 8 % 8 + 1))
            calls.append(("sooner", 1 - k % 2))
            calls.append(("more",))
        rows = apart(answers(flat(calls)), 400)
        self.assertEqual({len(row) for row in rows[2::3] + rows[3::3]}, {5})

    def test_2400_numbers(self):
        calls = flat([("begin", 9, 9, 9, 9, 6)] * 400)
        self.assertEqual(len(calls), 2400)
        self.assertEqual(answers(calls), [1, 0] * 400)


if __name__ == "__main__":
    unittest.main()
