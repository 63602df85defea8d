"""The interface: how calls are handed in, how answers are given back, and what is left as it was."""

import unittest

from asking import BUILT, SIZES, apart, flat
from mendedline.machines import answers


def all_built():
    calls = [("begin", 2, 3, 4, 5, 3)]
    for name in BUILT[1:]:
        calls.append((name,) + (1,) * SIZES.get(name, 0))
    return flat(calls)


class Interface(unittest.TestCase):
    def test_numbers_in_and_numbers_out(self):
        # By hand: with 0, 1, 2 pieces the room weighs 1, 18, 162 where the first is up by 9 tenths, the second by 5.
        self.assertEqual(answers([5, 0, 5, 5, 5, 5, 1, 3, 1, 0, 1, 0, 1, 9, 4, 2, 2, 6, 7, 0, 5, 5, 5, 5, 0, 11]),
                         [1, -11, 1, 0, 3, 0, 1, 1, 2, 5, 5, 1, 1, 1, 1, 1, -2, 1, -22, 5, 0, 162, 181, 1, 181])

    def test_one_call(self):
        self.assertEqual(answers([0, 1, 1, 1, 1, 1]), [1, 0])
        self.assertEqual(answers([10]), [1, -11])

    def test_every_number_is_an_int_and_no_bool(self):
        for number in answers(all_built()):
            self.assertIs(type(number), int)
        self.assertIs(type(answers(all_built())), list)

    def test_how_many_numbers_each_call_answers(self):
        sizes = [len(row) for row in apart(answers(all_built()), len(BUILT))]
        self.assertEqual(sizes, [1, 2, 1, 3, 1, 3, 3, 3, 3, 3, 3, 5])

    def test_what_is_handed_in_is_not_changed(self):
        calls = all_built()
        copy = list(calls)
        answers(calls)
        self.assertEqual(calls, copy)

    def test_what_is_handed_in_is_not_changed_for_a_while_either(self):
        class Watched(list):
            def refuse(self, *given):
                raise AssertionError("the list handed in was to be changed")

            append = extend = insert = pop = remove = clear = sort = reverse = refuse
            __setitem__ = __delitem__ = __iadd__ = __imul__ = refuse

        self.assertEqual(answers(Watched(all_built())), answers(all_built()))

    def test_nothing_is_kept_from_one_time_to_the_next(self):
        once = answers(all_built())
        self.assertEqual(answers([5]), [1, -11])
        answers(flat([("begin", 9, 1, 9, 1, 6), ("hour", 1, 0), ("out",)]))
        self.assertEqual(answers([4]), [1, -11])
        self.assertEqual(answers(all_built()), once)

    def test_what_is_given_back_may_be_changed(self):
        once = answers(all_built())
        again = answers(all_built())
        again.clear()
        self.assertEqual(answers(all_built()), once)

    def test_400_calls(self):
        calls = [("begin", 1, 2, 3, 4, 6)]
        for k in range(199):
            calls.append(("change", k % 2, k % 9 + 1, k // 9 % 9 + 1))
            calls.append(("full",))
        calls.append(("out",))
        rows = apart(answers(flat(calls)), 400)
        self.assertEqual(len(rows[-1]), 3)

    def test_2400_numbers(self):
        calls = flat([("begin", 9, 9, 9, 9, 6)] * 400)
        self.assertEqual(len(calls), 2400)
        self.assertEqual(answers(calls), [1, 0] * 400)


if __name__ == "__main__":
    unittest.main()
