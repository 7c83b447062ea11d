"""clear, say, aside, back, said, times: promises 0, 5, 6 and 9, and the names and their order."""

import unittest

from calling import (CLEAR, FAR, POSSIBLE, TIMES, aside, ask, back, bounds, core, drop, last, print_core, row, said,
                     say, state, told_times, whole)


def told_thing(kind, a, on, one, two=""):
    return [kind, a, on] + row(one) + row(two)


class Say(unittest.TestCase):
    def test_each_kind(self):
        self.assertEqual(
            ask(say(0, 5, "A"), say(1, 9, "B2"), say(2, -3, "A", "C"), say(3, 0, "LONG00", "A"), said(0), said(1),
                said(2), said(3)),
            [[0], [1], [2], [3], told_thing(0, 5, 1, "A"), told_thing(1, 9, 1, "B2"), told_thing(2, -3, 1, "A", "C"),
             told_thing(3, 0, 1, "LONG00", "A")])

    def test_the_range_of_a(self):
        for kind, two in ((0, ""), (1, ""), (2, "B"), (3, "B")):
            least = 0 if kind == 3 else -100000
            for a in (least, 0, 1, 100000):
                self.assertEqual(ask(say(kind, a, "A", two), said(0)), [[0], told_thing(kind, a, 1, "A", two)])
            for a in (least - 1, 100001, FAR, -FAR):
                self.assertEqual(ask(say(kind, a, "A", two)), [[-1]])

    def test_the_range_of_kind(self):
        for kind in (-1, 4, FAR, -FAR):
            self.assertEqual(ask(say(kind, 0, "A"), say(kind, 0, "A", "B")), [[-1], [-1]])

    def test_names_that_are_none(self):
        for name in ("", "a", "0A", "9", "ABCDEFG", "ABCDEFGH", "A B", " A", "A ", "Ab", "(A)", "@", "[", "A/", "A:",
                     [65, FAR], [-65], [65, -1], [65, 256], [0]):
            self.assertEqual(ask(say(0, 1, name), say(1, 1, name), say(2, 1, name, "Q"), say(3, 1, name, "Q"),
                                 say(2, 1, "Q", name), say(3, 1, "Q", name), TIMES), [[-1]] * 6 + [told_times()])

    def test_names_at_their_edges(self):
        for name in ("A", "Z", "A0", "Z9", "AZ09AZ"):
            self.assertEqual(ask(say(0, 1, name), say(2, 1, "Q", name), TIMES), [[0], [1], told_times(name, "Q")])

    def test_name_two_is_empty_in_kinds_0_and_1(self):
        for two in ("A", "B", "x", [FAR]):
            self.assertEqual(ask(say(0, 1, "A", two), say(1, 1, "A", two)), [[-1], [-1]])

    def test_name_two_is_another_one_in_kinds_2_and_3(self):
        self.assertEqual(ask(say(2, 1, "A", "A"), say(3, 1, "AB", "AB"), say(2, 1, "A"), say(3, 1, "A"),
                             say(2, 1, "A", "A0")), [[-1], [-1], [-1], [-1], [0]])

    def test_twelve_things_and_a_thirteenth(self):
        calls = [say(0, k, "A") for k in range(13)]
        self.assertEqual(ask(*calls), [[k] for k in range(12)] + [[-6]])
        self.assertEqual(ask(*calls[:12], aside(3), say(0, 1, "A"), said(11), said(12))[12:],
                         [[0], [-6], told_thing(0, 11, 1, "A"), [-4]])

    def test_fourteen_names_and_a_fifteenth(self):
        seven = [say(2, 0, f"A{k}", f"B{k}") for k in range(7)]
        self.assertEqual(ask(*seven, say(0, 0, "C"), say(2, 0, "A0", "C"), say(3, 0, "C", "A0"), say(3, 0, "A0", "B6")),
                         [[k] for k in range(7)] + [[-5], [-5], [-5], [7]])
        six = seven[:6] + [say(0, 0, "C")]
        self.assertEqual(last(*six, say(2, 0, "D", "E")), [-5])
        self.assertEqual(last(*six, say(2, 0, "D", "C")), [7])

    def test_names_of_cores_and_of_what_is_set_aside_count(self):
        thirteen = [core(0, "".join(f"(A{k})" for k in range(12))), whole(0, 0), say(0, 0, "B"), aside(0)]
        self.assertEqual(last(*thirteen, say(2, 0, "C", "D")), [-5])
        self.assertEqual(last(*thirteen, say(2, 0, "C", "B")), [1])

    def test_the_order_of_refusals(self):
        twelve = [core(0, "".join(f"(A{k})" for k in range(12))), core(1, "(B0)(B1)")]
        twelve += [say(0, k, "A0") for k in range(12)]
        self.assertEqual(last(*twelve, say(0, 0, "C")), [-6])
        self.assertEqual(last(*twelve, say(0, 100001, "C")), [-1])
        self.assertEqual(last(*twelve, say(2, 0, "C", "C")), [-1])
        self.assertEqual(last(*twelve[:-1], say(0, 0, "C")), [-5])
        self.assertEqual(last(*twelve[:-1], say(4, 0, "C")), [-1])

    def test_a_refusal_changes_nothing(self):
        start = [core(0, "".join(f"(A{k})" for k in range(12))), say(0, 7, "B0"), aside(0), say(1, 9, "B1")]
        before = ask(*start, *state())[len(start):]
        for call in (say(0, 1, "C"), say(0, 1, ""), say(7, 1, "B0"), say(3, -1, "B0", "B1"), aside(2), back(2),
                     aside(-1), back(FAR), said(2), whole(1, 0), whole(0, 2), bounds("C"), bounds("c")):
            after = ask(*start, call, *state())[len(start):]
            self.assertLess(after[0][0], 0)
            self.assertEqual(len(after[0]), 1)
            self.assertEqual(after[1:], before)
        full = start + [say(0, 1, "A0")] * 10
        before = ask(*full, *state())[len(full):]
        self.assertEqual(ask(*full, say(0, 1, "A0"), *state())[len(full):], [[-6]] + before)


class AsideAndBack(unittest.TestCase):
    def test_aside_and_back(self):
        self.assertEqual(
            ask(say(0, 5, "A"), say(1, 9, "A"), aside(0), said(0), said(1), aside(0), said(0), back(0), said(0),
                back(0), said(0)),
            [[0], [1], [0], told_thing(0, 5, 0, "A"), told_thing(1, 9, 1, "A"), [0], told_thing(0, 5, 0, "A"), [0],
             told_thing(0, 5, 1, "A"), [0], told_thing(0, 5, 1, "A")])

    def test_no_such_thing(self):
        for k in (-1, 1, 12, FAR, -FAR):
            self.assertEqual(ask(say(0, 5, "A"), aside(k), back(k), said(k)), [[0], [-4], [-4], [-4]])
        self.assertEqual(ask(aside(0), back(0), said(0)), [[-4]] * 3)

    def test_the_twelfth_thing(self):
        calls = [say(0, k, "A") for k in range(12)]
        self.assertEqual(ask(*calls, aside(11), said(11), aside(12))[12:], [[0], told_thing(0, 11, 0, "A"), [-4]])

    def test_numbers_and_names_stay(self):
        self.assertEqual(ask(say(0, 5, "A"), aside(0), TIMES, say(0, 6, "B"), TIMES),
                         [[0], [0], told_times("A"), [1], told_times("A", "B")])

    def test_lines_go_and_come_back(self):
        self.assertEqual(ask(say(0, 5, "A"), say(1, 4, "A"), POSSIBLE, aside(0), POSSIBLE, bounds("A"), back(0),
                             POSSIBLE, bounds("A")),
                         [[0], [1], [0], [0], [1], [0, 0, 1, 4], [0], [0], [-7]])


class Clear(unittest.TestCase):
    def test_all_is_gone(self):
        self.assertEqual(ask(core(0, "y(A)"), core(3, "y"), say(0, 5, "B"), CLEAR, TIMES, print_core(0), print_core(3),
                             said(0), bounds("A"), POSSIBLE),
                         [[1], [0], [0], [0], told_times(), [-4], [-4], [-4], [-3], [1]])

    def test_numbers_begin_anew(self):
        self.assertEqual(ask(CLEAR, say(0, 5, "A"), say(0, 6, "A"), CLEAR, say(0, 7, "A"), said(0)),
                         [[0], [0], [1], [0], [0], told_thing(0, 7, 1, "A")])

    def test_there_is_room_again(self):
        calls = [core(0, "".join(f"(A{k})" for k in range(12)))] + [say(0, k, "A0") for k in range(12)]
        self.assertEqual(ask(*calls, CLEAR, say(2, 0, "C", "D"), core(0, "(A)"))[13:], [[0], [0], [1]])


class Times(unittest.TestCase):
    def test_no_names(self):
        self.assertEqual(ask(TIMES, core(0, "5y"), TIMES), [[9], [0], [9]])

    def test_cores_in_order_then_things(self):
        self.assertEqual(
            last(say(3, 1, "X", "W"), say(0, 1, "C"), core(2, "(D)(A)"), core(0, "(C)y(B)"), say(2, 1, "V", "X"), TIMES),
            told_times("C", "B", "D", "A", "X", "W", "V"))

    def test_a_name_stands_where_it_comes_first(self):
        self.assertEqual(last(core(0, "(C)(A)"), core(1, "(B)(A)(C)(D)"), say(2, 0, "E", "A"), say(0, 0, "D"), TIMES),
                         told_times("C", "A", "B", "D", "E"))

    def test_names_that_go_and_move(self):
        calls = [core(0, "(C)(A)"), core(1, "(B)(A)"), say(2, 0, "E", "C"), drop(0)]
        self.assertEqual(last(*calls, TIMES), told_times("B", "A", "E", "C"))
        self.assertEqual(last(*calls, core(1, "(F)"), TIMES), told_times("F", "E", "C"))
        self.assertEqual(last(*calls, core(0, "(E)"), TIMES), told_times("E", "B", "A", "C"))

    def test_what_is_set_aside_keeps_its_names(self):
        self.assertEqual(last(core(0, "(B)"), say(0, 0, "C"), whole(0, 0), aside(0), TIMES), told_times("B", "C"))

    def test_fourteen_names(self):
        names = [f"A{k}" for k in range(12)] + ["B", "LONG00"]
        self.assertEqual(last(core(0, "".join(f"({name})" for name in names[:12])), say(2, 0, "B", "LONG00"), TIMES),
                         told_times(*names))


if __name__ == "__main__":
    unittest.main()
