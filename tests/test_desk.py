"""The interface: how calls are handed in, how answers are given back, and that nothing is kept."""

import unittest

from calling import CLEAR, POSSIBLE, TIMES, aside, ask, back, bounds, core, drop, parts, print_core, said, say, whole
from layerages.desk import answers


class TheLists(unittest.TestCase):
    def test_each_call_alone(self):
        self.assertEqual(answers([0]), [1, 0])
        self.assertEqual(answers([1, 0, 0]), [1, 0])
        self.assertEqual(answers([1, 2, 5, 121, 40, 65, 41, 32]), [1, 1])
        self.assertEqual(answers([2, 0]), [1, -4])
        self.assertEqual(answers([3, 0]), [1, -4])
        self.assertEqual(answers([4, 0]), [1, -4])
        self.assertEqual(answers([5, 0, 9, 1, 65, 0]), [1, 0])
        self.assertEqual(answers([6, 0]), [1, -4])
        self.assertEqual(answers([7, 0]), [1, -4])
        self.assertEqual(answers([8, 0, 1]), [1, -4])
        self.assertEqual(answers([9, 0]), [1, -4])
        self.assertEqual(answers([10]), [1, 9])
        self.assertEqual(answers([11]), [1, 1])
        self.assertEqual(answers([12, 1, 65]), [1, -3])

    def test_all_calls_on_one_object(self):
        calls = [
            1, 0, 9, 50, 121, 40, 65, 83, 41, 51, 63, 121,
            3, 0,
            4, 0,
            5, 2, -4, 2, 65, 83, 1, 66,
            5, 1, 7, 1, 66, 0,
            9, 0,
            9, 1,
            10,
            11,
            12, 2, 65, 83,
            12, 1, 66,
            6, 0,
            12, 1, 66,
            7, 0,
            8, 0, 0,
            12, 2, 65, 83,
            2, 0,
            0,
            10,
        ]
        self.assertEqual(answers(calls), [
            1, 1,
            13, 12, 50, 121, 32, 40, 65, 83, 41, 32, 51, 63, 32, 121,
            5, 4, 2, 2, 1, 4,
            1, 0,
            1, 1,
            8, 2, -4, 1, 2, 65, 83, 1, 66,
            6, 1, 7, 1, 1, 66, 0,
            6, 11, 2, 65, 83, 1, 66,
            1, 1,
            4, 0, 2, 0, 0,
            4, 0, 0, 1, 7,
            1, 0,
            4, 0, 0, 1, 7,
            1, 0,
            1, 0,
            4, 0, 0, 0, 0,
            1, 0,
            1, 0,
            1, 9,
        ])

    def test_rows_that_are_empty_or_too_long(self):
        self.assertEqual(answers([12, 0, 11]), [1, -1, 1, 1])
        self.assertEqual(answers([5, 0, 0, 0, 0, 11]), [1, -1, 1, 1])
        self.assertEqual(answers([5, 2, 0, 8] + [65] * 8 + [8] + [66] * 8 + [11]), [1, -1, 1, 1])
        self.assertEqual(answers([1, 0, 310] + [121] * 310 + [11]), [1, -1, 1, 1])

    def test_a_hundred_and_fifty_calls(self):
        calls = [core(k % 4, "y(A)2?(B)" + " " * 80) for k in range(74)] + [say(3, 1, "A", "B")]
        calls += [bounds("B")] * 75
        told = ask(*calls)
        self.assertEqual(told, [[2]] * 74 + [[0]] + [[0, 1, 0, 0]] * 75)


class NothingIsKept(unittest.TestCase):
    def every_call(self):
        calls = []
        for call in (core(0, " 2y (AS) <1-3>(B)"), core(1, "x"), print_core(0), parts(0), say(2, 3, "C", "B"),
                     say(0, 1, "c"), aside(0), back(0), whole(0, 0), said(0), TIMES, POSSIBLE, bounds("C"), drop(0),
                     CLEAR, core(3, "(Z)"), say(1, 4, "Z")):
            calls += call
        return calls

    def test_what_is_handed_in_stays_as_it_was(self):
        calls = self.every_call()
        copy = list(calls)
        answers(calls)
        self.assertEqual(calls, copy)

    def test_what_is_handed_in_is_not_changed_for_a_while_either(self):
        class Fixed(list):
            def refuse(self, *given):
                raise AssertionError("the list of calls was changed")

            append = extend = insert = pop = remove = clear = sort = reverse = refuse
            __setitem__ = __delitem__ = __iadd__ = __imul__ = refuse

        self.assertEqual(answers(Fixed(self.every_call())), answers(self.every_call()))

    def test_two_times_know_nothing_of_one_another(self):
        first = answers(self.every_call())
        self.assertEqual(answers(TIMES + print_core(3) + said(0)), [1, 9, 1, -4, 1, -4])
        self.assertEqual(answers(self.every_call()), first)

    def test_an_answer_that_is_changed_outside_does_no_harm(self):
        first = answers(self.every_call())
        copy = list(first)
        first.clear()
        self.assertEqual(answers(self.every_call()), copy)

    def test_a_list_of_whole_numbers_is_given_back(self):
        told = answers(self.every_call())
        self.assertIs(type(told), list)
        for number in told:
            self.assertIs(type(number), int)


if __name__ == "__main__":
    unittest.main()
