"""whole, possible, bounds: promises 8 and 12, the lines, and when it can all be true."""

import unittest

from calling import (FAR, POSSIBLE, aside, ask, back, bounds, core, drop, last, print_core, row, say, whole)


class Whole(unittest.TestCase):
    def test_set_aside_and_counted_again(self):
        self.assertEqual(ask(core(0, "5y(A)"), bounds("A"), whole(0, 0), bounds("A"), whole(0, 0), bounds("A"),
                             whole(0, 1), bounds("A"), whole(0, 1), bounds("A")),
                         [[1], [0, 5, 0, 0], [0], [0, 0, 0, 0], [0], [0, 0, 0, 0], [0], [0, 5, 0, 0], [0],
                          [0, 5, 0, 0]])

    def test_only_that_core(self):
        self.assertEqual(ask(core(0, "5y(A)"), core(1, "6y(B)"), whole(0, 0), bounds("A"), bounds("B")),
                         [[1], [1], [0], [0, 0, 0, 0], [0, 6, 0, 0]])

    def test_refusals(self):
        for c in (-1, 4, FAR, -FAR):
            self.assertEqual(ask(whole(c, 0), whole(c, 1)), [[-1], [-1]])
        for on in (-1, 2, FAR, -FAR):
            self.assertEqual(ask(whole(0, on), core(0, "y"), whole(0, on)), [[-1], [0], [-1]])
        for c in range(4):
            self.assertEqual(ask(whole(c, 0), whole(c, 1), core(c, "y"), whole(c, 0), whole(c, 1)),
                             [[-4], [-4], [0], [0], [0]])
        self.assertEqual(last(core(0, "y"), drop(0), whole(0, 1)), [-4])

    def test_a_refusal_changes_nothing(self):
        self.assertEqual(ask(core(0, "5y(A)"), whole(0, 2), bounds("A"), whole(0, 0), whole(0, -1), whole(1, 1),
                             bounds("A"), print_core(0)),
                         [[1], [-1], [0, 5, 0, 0], [0], [-1], [-4], [0, 0, 0, 0], row("5y (A)")])


class Possible(unittest.TestCase):
    def test_nothing_said(self):
        self.assertEqual(ask(POSSIBLE), [[1]])

    def test_at_least_against_at_most(self):
        self.assertEqual(ask(say(0, 5, "A"), say(1, 5, "A"), POSSIBLE), [[0], [1], [1]])
        self.assertEqual(ask(say(0, 6, "A"), say(1, 5, "A"), POSSIBLE), [[0], [1], [0]])

    def test_nothing_is_younger_than_the_present(self):
        self.assertEqual(ask(say(1, 0, "A"), POSSIBLE, bounds("A")), [[0], [1], [0, 0, 1, 0]])
        self.assertEqual(ask(say(1, -1, "A"), POSSIBLE), [[0], [0]])
        self.assertEqual(ask(core(0, "3y(A)"), say(1, 2, "A"), POSSIBLE), [[1], [0], [0]])
        self.assertEqual(ask(core(0, "3y(A)"), say(1, 3, "A"), POSSIBLE), [[1], [0], [1]])

    def test_a_ring_that_is_far_from_the_present(self):
        self.assertEqual(ask(say(2, 1, "A", "B"), say(2, 1, "B", "C"), POSSIBLE, say(2, -2, "C", "A"), POSSIBLE,
                             say(2, -1, "C", "A"), POSSIBLE),
                         [[0], [1], [1], [2], [1], [3], [0]])

    def test_cores_against_one_another(self):
        self.assertEqual(ask(core(0, "(A)5y2?(B)"), core(1, "(A)<7-9>(B)"), POSSIBLE), [[2], [2], [1]])
        self.assertEqual(ask(core(0, "(A)5y2?(B)"), core(1, "(A)<8-9>(B)"), POSSIBLE), [[2], [2], [0]])
        self.assertEqual(ask(core(0, "(A)(B)"), core(1, "(B)(A)"), POSSIBLE), [[2], [2], [1]])
        self.assertEqual(ask(core(0, "(A)y(B)"), core(1, "(B)(A)"), POSSIBLE), [[2], [2], [0]])

    def test_what_is_set_aside_is_not_reckoned(self):
        self.assertEqual(ask(core(0, "(A)y(B)"), core(1, "(B)(A)"), whole(0, 0), POSSIBLE, whole(0, 1), POSSIBLE,
                             whole(1, 0), POSSIBLE), [[2], [2], [0], [1], [0], [0], [0], [1]])
        self.assertEqual(ask(say(2, 1, "A", "B"), say(2, 0, "B", "A"), aside(1), POSSIBLE, back(1), POSSIBLE),
                         [[0], [1], [0], [1], [0], [0]])

    def test_the_longest_ring(self):
        links = [say(2, 1, f"A{k}", f"A{k + 1}") for k in range(11)]
        top = "".join(f"(A{k})y" for k in range(11, -1, -1))
        self.assertEqual(last(*links, say(1, 11, "A0"), POSSIBLE), [1])
        self.assertEqual(last(*links, say(1, 10, "A0"), POSSIBLE), [0])
        self.assertEqual(last(core(0, top), *links, say(3, 11, "A0", "A11"), POSSIBLE), [1])
        self.assertEqual(last(core(0, top), *links, say(3, 10, "A0", "A11"), POSSIBLE), [0])


class Bounds(unittest.TestCase):
    def test_each_kind_of_thing(self):
        self.assertEqual(last(say(0, 5, "A"), bounds("A")), [0, 5, 0, 0])
        self.assertEqual(last(say(0, -5, "A"), bounds("A")), [0, 0, 0, 0])
        self.assertEqual(last(say(1, 9, "A"), bounds("A")), [0, 0, 1, 9])
        older = [say(0, 5, "B"), say(1, 20, "A"), say(2, 3, "A", "B")]
        self.assertEqual(ask(*older, bounds("A"), bounds("B"))[3:], [[0, 8, 1, 20], [0, 5, 1, 17]])
        below = [say(0, 5, "B"), say(1, 20, "A"), say(2, -3, "A", "B")]
        self.assertEqual(ask(*below, bounds("A"), bounds("B"))[3:], [[0, 2, 1, 20], [0, 5, 1, 23]])
        near = [say(0, 5, "A"), say(1, 9, "A"), say(3, 2, "A", "B")]
        self.assertEqual(ask(*near, bounds("A"), bounds("B"))[3:], [[0, 5, 1, 9], [0, 3, 1, 11]])
        near = [say(0, 5, "A"), say(1, 9, "A"), say(3, 2, "B", "A")]
        self.assertEqual(ask(*near, bounds("A"), bounds("B"))[3:], [[0, 5, 1, 9], [0, 3, 1, 11]])

    def test_a_core(self):
        calls = [core(0, "2y?(A)3y4?(B)<1-2>(C)9y"), say(1, 10, "A"), say(0, 4, "A")]
        self.assertEqual(ask(*calls, bounds("A"), bounds("B"), bounds("C"))[3:],
                         [[0, 4, 1, 10], [0, 7, 1, 17], [0, 8, 1, 19]])

    def test_a_lower_mark_binds_the_upper_one(self):
        calls = [core(0, "2y(A)3y4?(B)"), say(1, 10, "B")]
        self.assertEqual(ask(*calls, bounds("A"), bounds("B"))[2:], [[0, 2, 1, 7], [0, 5, 1, 10]])
        calls = [core(0, "2y(A)3y4?(B)"), say(0, 20, "B")]
        self.assertEqual(ask(*calls, bounds("A"), bounds("B"))[2:], [[0, 13, 0, 0], [0, 20, 0, 0]])

    def test_the_upper_end_may_lie_deep(self):
        self.assertEqual(last(core(0, "2y(A)"), bounds("A")), [0, 2, 0, 0])

    def test_a_mark_of_several_cores(self):
        calls = [core(0, "3y(A)2y(B)"), core(2, "<4-9>(B)?(C)"), core(3, "8y(A)"), say(1, 12, "C")]
        self.assertEqual(ask(*calls, bounds("A"), bounds("B"), bounds("C"))[4:],
                         [[0, 8, 1, 10], [0, 10, 1, 12], [0, 10, 1, 12]])

    def test_each_of_the_four_cores_counts(self):
        for c in range(4):
            self.assertEqual(ask(core(c, "3y(A)2y(B)"), bounds("A"), bounds("B")),
                             [[2], [0, 3, 0, 0], [0, 5, 0, 0]])

    def test_names_in_what_is_set_aside(self):
        self.assertEqual(ask(say(0, 5, "A"), aside(0), bounds("A"), back(0), bounds("A")),
                         [[0], [0], [0, 0, 0, 0], [0], [0, 5, 0, 0]])
        self.assertEqual(ask(core(0, "5y(A)"), whole(0, 0), bounds("A")), [[1], [0], [0, 0, 0, 0]])

    def test_great_numbers(self):
        self.assertEqual(last(say(0, 100000, "A"), bounds("A")), [0, 100000, 0, 0])
        links = [say(2, 100000, f"A{k}", f"A{k + 1}") for k in range(12)]
        self.assertEqual(last(*links, bounds("A0")), [0, 1200000, 0, 0])
        self.assertEqual(last(core(0, "9999y" * 58 + "(A)"), bounds("A")), [0, 579942, 0, 0])

    def test_fourteen_names(self):
        calls = [core(0, "".join(f"y(A{k})" for k in range(12))), say(2, 5, "B", "A11"), say(3, 2, "C", "B"),
                 say(1, 40, "C")]
        self.assertEqual(ask(*calls, bounds("A0"), bounds("A11"), bounds("B"), bounds("C"))[4:],
                         [[0, 1, 1, 26], [0, 12, 1, 37], [0, 17, 1, 42], [0, 15, 1, 40]])

    def test_names_that_are_none(self):
        for name in ("", "a", "0", "ABCDEFG", "ABCDEFGH", "A B", "(A)", [256], [-1], [65, FAR]):
            self.assertEqual(last(say(0, 5, "A"), bounds(name)), [-1])

    def test_names_that_are_not_there(self):
        self.assertEqual(ask(bounds("A"), say(0, 5, "A"), bounds("AA"), bounds("B"), bounds("A")),
                         [[-3], [0], [-3], [-3], [0, 5, 0, 0]])
        self.assertEqual(ask(core(0, "(A)"), core(0, "(B)"), bounds("A"), drop(0), bounds("B")),
                         [[1], [1], [-3], [0], [-3]])

    def test_what_can_not_all_be_true(self):
        against = [say(0, 6, "A"), say(1, 5, "A"), core(0, "(B)")]
        self.assertEqual(ask(*against, bounds("A"), bounds("B"), bounds("C"), bounds("c"))[3:],
                         [[-7], [-7], [-3], [-1]])


if __name__ == "__main__":
    unittest.main()
