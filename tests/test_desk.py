"""The interface: how calls are handed in, how answers are given back, and that nothing is kept."""

import unittest

from calling import (ALL, CLEAR, FAR, OLDEST, POSSIBLE, REPAIR, RING, TIMES, YOUNGEST, apart, aside, ask, back, bounds,
                     check, core, drop, last, layer, matters, order, parts, print_core, said, say, state, suppose,
                     whole, why)
from layerages.desk import answers


class TheLists(unittest.TestCase):
    def test_each_call_alone(self):
        self.assertEqual(answers([0]), [1, 0])
        self.assertEqual(answers([1, 0, 0]), [1, 0])
        self.assertEqual(answers([1, 2, 5, 121, 40, 65, 41, 32]), [1, 1])
        self.assertEqual(answers([2, 0]), [1, -4])
        self.assertEqual(answers([3, 0]), [1, -4])
        self.assertEqual(answers([4, 0]), [1, -4])
        self.assertEqual(answers([5, 0, 9, 1, 65, 0]), [1, 0])
        self.assertEqual(answers([6, 0]), [1, -4])
        self.assertEqual(answers([7, 0]), [1, -4])
        self.assertEqual(answers([8, 0, 1]), [1, -4])
        self.assertEqual(answers([9, 0]), [1, -4])
        self.assertEqual(answers([10]), [1, 9])
        self.assertEqual(answers([11]), [1, 1])
        self.assertEqual(answers([12, 1, 65]), [1, -3])
        self.assertEqual(answers([13, 1, 65, 2, 66, 67]), [1, -3])
        self.assertEqual(answers([14, 1, 65, 2, 66, 67]), [1, -3])
        self.assertEqual(answers([15, 7, 1, 65, 2, 66, 67]), [1, -3])
        self.assertEqual(answers([16, 0, 1]), [1, -4])
        self.assertEqual(answers([17]), [1, 0])
        self.assertEqual(answers([18]), [1, 0])
        self.assertEqual(answers([19, 0, 1, 65]), [1, -3])
        self.assertEqual(answers([20]), [1, 0])
        self.assertEqual(answers([21, 4, 1, 0, 0, 200]), [4, 1, 1, 0, 0])
        self.assertEqual(answers([22, 0]), [1, -4])
        self.assertEqual(answers([23]), [1, 0])
        self.assertEqual(answers([24]), [1, 0])

    def test_all_calls_on_one_object(self):
        calls = [
            1, 0, 9, 50, 121, 40, 65, 83, 41, 51, 63, 121,
            3, 0,
            4, 0,
            5, 2, -4, 2, 65, 83, 1, 66,
            5, 1, 7, 1, 66, 0,
            9, 0,
            9, 1,
            10,
            11,
            12, 2, 65, 83,
            12, 1, 66,
            6, 0,
            12, 1, 66,
            7, 0,
            8, 0, 0,
            12, 2, 65, 83,
            2, 0,
            0,
            10,
        ]
        self.assertEqual(answers(calls), [
            1, 1,
            13, 12, 50, 121, 32, 40, 65, 83, 41, 32, 51, 63, 32, 121,
            5, 4, 2, 2, 1, 4,
            1, 0,
            1, 1,
            8, 2, -4, 1, 2, 65, 83, 1, 66,
            6, 1, 7, 1, 1, 66, 0,
            6, 11, 2, 65, 83, 1, 66,
            1, 1,
            4, 0, 2, 0, 0,
            4, 0, 0, 1, 7,
            1, 0,
            4, 0, 0, 1, 7,
            1, 0,
            1, 0,
            4, 0, 0, 0, 0,
            1, 0,
            1, 0,
            1, 9,
        ])

    def test_the_calls_from_13_on_on_one_object(self):
        calls = [
            1, 0, 9, 50, 121, 40, 65, 83, 41, 51, 63, 121,
            5, 2, 4, 1, 66, 2, 65, 83,
            5, 1, 9, 1, 66, 0,
            13, 1, 66, 2, 65, 83,
            14, 2, 65, 83, 1, 66,
            15, 3, 2, 65, 83, 1, 66,
            16, 0, 3,
            17,
            18,
            19, 0, 1, 66,
            19, 1, 2, 65, 83,
            20,
            21, 8, 0, 2, 9, 1, 2, 1, -4, 0,
            21, 3, 0, 2, 9,
            21, 4, 0, 2, 9, 0,
            22, 1,
            23,
            24,
            5, 1, 5, 1, 66, 0,
            20,
            23,
            6, 1,
            23,
        ]
        self.assertEqual(answers(calls), [
            1, 1,
            1, 0,
            1, 1,
            5, 0, 1, 4, 1, 7,
            4, 0, 0, 0, 1,
            4, 0, 7, 1, 9,
            4, 0, 2, 1, 6,
            3, 0, 2, 6,
            3, 0, 5, 9,
            13, 3, 2, 1, -4, 0, 1, 3, -2, 100, 3, 0, 0, 200,
            9, 2, 0, 2, 9, 1, 2, 1, -4, 0,
            1, 0,
            4, 1, 0, 1, 5,
            1, -1,
            1, 0,
            1, 1,
            1, 0,
            7, 0, 2, 1, 5, 6, 1, 9,
            1, 2,
            17, 4, 0, 2, 5, 2, 2, 1, -4, 0, 1, 3, -2, 100, 3, 0, 0, 200,
            2, 1, 0,
            1, 0,
            2, 1, 0,
        ])

    def test_rows_that_are_empty_or_too_long(self):
        self.assertEqual(answers([12, 0, 11]), [1, -1, 1, 1])
        self.assertEqual(answers([5, 0, 0, 0, 0, 11]), [1, -1, 1, 1])
        self.assertEqual(answers([5, 2, 0, 8] + [65] * 8 + [8] + [66] * 8 + [11]), [1, -1, 1, 1])
        self.assertEqual(answers([1, 0, 310] + [121] * 310 + [11]), [1, -1, 1, 1])
        self.assertEqual(answers([13, 0, 0, 11]), [1, -1, 1, 1])
        self.assertEqual(answers([14, 8] + [65] * 8 + [8] + [66] * 8 + [11]), [1, -1, 1, 1])
        self.assertEqual(answers([15, 0, 0, 1, 65, 11]), [1, -1, 1, 1])
        self.assertEqual(answers([19, 0, 8] + [65] * 8 + [11]), [1, -1, 1, 1])
        self.assertEqual(answers([21, 0, 11]), [4, 1, 0, 0, 0, 1, 1])
        self.assertEqual(answers([21, 210] + [FAR] * 210 + [11]), [1, -1, 1, 1])

    def test_a_hundred_and_fifty_calls(self):
        calls = [core(k % 4, "y(A)2?(B)" + " " * 80) for k in range(74)] + [say(3, 1, "A", "B")]
        calls += [bounds("B")] * 75
        told = ask(*calls)
        self.assertEqual(told, [[2]] * 74 + [[0]] + [[0, 1, 0, 0]] * 75)


NAMES = [f"A{k}" for k in range(12)] + ["B", "C"]


def much_said():
    """14 names, four cores and 12 things said."""
    calls = [core(0, "".join(f"y2?(A{k})" for k in range(12)) + "5y"),
             core(1, "<0-99>" + "".join(f"(A{k})<1-3>" for k in range(0, 12, 2))),
             core(2, "<0-99>" + "".join(f"(A{k})<2-9>" for k in range(1, 12, 3)) + "(B)"),
             core(3, "2y(A0)9y9?9?(A11)3?(B)<0-5>(C)4y")]
    things = [say(0, 3, "A0"), say(1, 60, "C"), say(2, 4, "A5", "A2"), say(3, 30, "A0", "A11"), say(2, 1, "C", "B"),
              say(1, 55, "B"), say(0, 11, "A6"), say(3, 20, "A3", "A9"), say(2, -9, "A1", "A4"), say(2, 2, "A8", "A7"),
              say(1, 50, "A11"), say(0, 16, "C")]
    return calls + things


class ManyCalls(unittest.TestCase):
    def test_what_can_all_be_true(self):
        calls = much_said()
        asked = [why(side, name) for side in (0, 1) for name in NAMES[:9]] + [RING] * 2 + [REPAIR] * 3
        asked += [bounds(name) for name in NAMES] + [YOUNGEST, OLDEST, ALL, POSSIBLE]
        asked += [matters(k) for k in range(12)] + [layer(3, i) for i in range(1, 31)]
        asked += [order("A0", name) for name in NAMES] + [suppose(4, "A0", name) for name in NAMES]
        asked += [apart("C", name) for name in NAMES]
        asked += [POSSIBLE] * (150 - len(calls) - len(asked))
        told = ask(*calls, *asked)
        self.assertEqual(len(told), 150)
        told = told[16:]
        self.assertEqual(told[18:23], [[0]] * 5)
        ages = dict(zip(NAMES, told[23:37]))
        for k, name in enumerate(NAMES[:9]):
            self.assertEqual(last(*calls, check(told[k][1:])), [1, k + 1, 0, -ages[name][1]])
            self.assertEqual(last(*calls, check(told[k + 9][1:])), [1, 0, k + 1, ages[name][3]])
        self.assertEqual(told[37], [0] + [ages[name][1] for name in NAMES])
        self.assertEqual(told[38], [0] + [ages[name][3] for name in NAMES])
        self.assertEqual(told[39], [0] + sum([ages[name][1:] for name in NAMES], []))

    def test_what_can_not_all_be_true(self):
        # The cores alone are against one another, so that repair tries all it may.
        calls = much_said() + [core(3, "2y(A0)99y(A11)3?(B)<0-5>(C)4y")]
        asked = [RING] * 20 + [REPAIR] * 3 + [POSSIBLE, YOUNGEST, ALL] + [matters(k) for k in range(12)]
        asked += [bounds("C")] * (150 - len(calls) - len(asked))
        told = ask(*calls, *asked)[17:]
        ring = told[0]
        self.assertEqual(told, [ring] * 20 + [[-9]] * 3 + [[0], [-7], [-7]] + [[-7]] * 12 + [[-7]] * 95)
        found = last(*calls, check(ring[1:]))
        self.assertEqual((found[0], found[1]), (1, found[2]))
        self.assertLess(found[3], 0)


class FindingsChangeNothing(unittest.TestCase):
    def asked(self):
        calls = [POSSIBLE, RING, REPAIR, YOUNGEST, OLDEST, ALL]
        for one in ("A", "B", "Z", "a", ""):
            calls += [bounds(one), why(0, one), why(1, one), why(2, one)]
            for two in ("A", "Z", ""):
                calls += [apart(one, two), order(one, two), suppose(5, one, two), suppose(-1, one, two)]
        calls += [layer(c, i) for c in (-1, 0, 1, 2, 4) for i in (0, 1, 3, 99)]
        calls += [matters(k) for k in (-1, 0, 1, 2, 3, 99)]
        return calls + [check([]), check([1]), check([1, 0, 0, 200]), check([9, 9, 9, 9]), check([0] * 204)]

    def look(self, said_before):
        shown = state() + [bounds("A"), bounds("B"), matters(0), matters(1), matters(2), layer(0, 1), layer(1, 1)]
        asked = self.asked()
        before = ask(*said_before, *shown)[len(said_before):]
        for call in asked:
            self.assertEqual(ask(*said_before, call, *shown)[len(said_before) + 1:], before, call)
        # One behind another they tell what each tells alone.
        self.assertEqual(ask(*said_before, *asked)[len(said_before):], [last(*said_before, call) for call in asked])

    def test_what_can_all_be_true(self):
        self.look([core(0, "2y(A)?(B)"), core(1, "(A)y"), whole(1, 0), say(1, 9, "B"), say(0, 4, "A"), aside(1),
                   say(2, -3, "A", "B")])

    def test_what_can_not_all_be_true(self):
        self.look([core(0, "2y(A)?(B)"), core(1, "(A)y"), whole(1, 0), say(1, 9, "B"), say(0, 14, "A"),
                   say(2, -3, "A", "B"), aside(2)])


class NothingIsKept(unittest.TestCase):
    def every_call(self):
        calls = []
        for call in (core(0, " 2y (AS) <1-3>(B)"), core(1, "x"), print_core(0), parts(0), say(2, 3, "C", "B"),
                     say(0, 1, "c"), aside(0), back(0), whole(0, 0), said(0), TIMES, POSSIBLE, bounds("C"),
                     apart("C", "B"), order("C", "B"), suppose(9, "C", "B"), layer(0, 1), whole(0, 1), layer(0, 2),
                     YOUNGEST, OLDEST, ALL, why(0, "C"), why(1, "C"), RING, check([1, 0, 0, 200]), check([0]),
                     matters(0), REPAIR, say(1, 3, "C"), RING, REPAIR, apart("C", "c"), drop(0),
                     CLEAR, core(3, "(Z)"), say(1, 4, "Z")):
            calls += call
        return calls

    def test_what_is_handed_in_stays_as_it_was(self):
        calls = self.every_call()
        copy = list(calls)
        answers(calls)
        self.assertEqual(calls, copy)

    def test_what_is_handed_in_is_not_changed_for_a_while_either(self):
        class Fixed(list):
            def refuse(self, *given):
                raise AssertionError("the list of calls was changed")

            append = extend = insert = pop = remove = clear = sort = reverse = refuse
            __setitem__ = __delitem__ = __iadd__ = __imul__ = refuse

        self.assertEqual(answers(Fixed(self.every_call())), answers(self.every_call()))

    def test_two_times_know_nothing_of_one_another(self):
        first = answers(self.every_call())
        self.assertEqual(answers(TIMES + print_core(3) + said(0)), [1, 9, 1, -4, 1, -4])
        self.assertEqual(answers(self.every_call()), first)

    def test_an_answer_that_is_changed_outside_does_no_harm(self):
        first = answers(self.every_call())
        copy = list(first)
        first.clear()
        self.assertEqual(answers(self.every_call()), copy)

    def test_a_list_of_whole_numbers_is_given_back(self):
        told = answers(self.every_call())
        self.assertIs(type(told), list)
        for number in told:
            self.assertIs(type(number), int)


if __name__ == "__main__":
    unittest.main()
