"""core, drop, print, parts: promises 1, 2 and 3, and a core as a text."""

import unittest

from calling import (FAR, TIMES, ask, bounds, core, drop, last, numbers_of, parts, print_core, row, say, state,
                     told_times, whole)


def marks(how_many, first="A"):
    return "".join(f"({first}{k})" for k in range(how_many))


class RightTexts(unittest.TestCase):
    def check(self, text, how_many, printed, years):
        self.assertEqual(ask(core(2, text), print_core(2), parts(2)),
                         [[how_many], row(printed), [len(years)] + years], text)

    def test_items_one_by_one(self):
        self.check("y", 0, "y", [1, 1])
        self.check("7y", 0, "7y", [7, 7])
        self.check("?", 0, "?", [0, 1])
        self.check("7?", 0, "7?", [0, 7])
        self.check("<2-5>", 0, "<2-5>", [2, 5])
        self.check("(A)", 1, "(A)", [0, 0, 0, 0])

    def test_empty_and_blank_texts(self):
        self.check("", 0, "", [0, 0])
        self.check(" ", 0, "", [0, 0])
        self.check(" " * 300, 0, "", [0, 0])

    def test_blanks_anywhere_and_nowhere(self):
        told = "3y (ASH) 2? <1-4> (B2) y"
        years = [3, 3, 1, 6, 1, 1]
        self.check("3y(ASH)2?<1-4>(B2)y", 2, told, years)
        self.check("  3y   (ASH)2? <1-4>(B2)   y    ", 2, told, years)
        self.check("3y (ASH) 2? <1-4> (B2) y", 2, told, years)

    def test_a_number_of_one_layer_is_left_out(self):
        self.check("1y1?yy", 0, "y ? y y", [3, 4])
        self.check("10y11?", 0, "10y 11?", [10, 21])
        self.check("<1-1>", 0, "<1-1>", [1, 1])

    def test_numbers_of_one_to_four_digits(self):
        for number in (1, 9, 10, 99, 100, 999, 1000, 9999):
            printed = "" if number == 1 else str(number)
            self.check(f"{number}y", 0, f"{printed}y", [number, number])
            self.check(f"{number}?", 0, f"{printed}?", [0, number])
            self.check(f"<{number}-9999>", 0, f"<{number}-9999>", [number, 9999])

    def test_gaps_at_their_edges(self):
        self.check("<0-0>", 0, "<0-0>", [0, 0])
        self.check("<0-9999>", 0, "<0-9999>", [0, 9999])
        self.check("<5-5>", 0, "<5-5>", [5, 5])
        self.check("<9-10>", 0, "<9-10>", [9, 10])

    def test_names_at_their_edges(self):
        for name in ("A", "Z", "A0", "Z9", "AZ09AZ", "QQQQQQ"):
            self.check(f"({name})", 1, f"({name})", [0, 0, 0, 0])

    def test_twelve_marks(self):
        text = marks(12)
        self.check(text, 12, text.replace(")(", ") ("), [0, 0] * 13)

    def test_stretches_are_summed_between_marks(self):
        self.check("2y3?<4-6>(A)y(B)(C)<1-2>?", 3, "2y 3? <4-6> (A) y (B) (C) <1-2> ?", [6, 11, 1, 1, 0, 0, 1, 3])

    def test_the_longest_text(self):
        self.check("y" * 300, 0, " ".join("y" * 300), [300, 300])
        self.check("9999y" * 60, 0, " ".join(["9999y"] * 60), [599940, 599940])
        self.check(" " * 297 + "(A)", 1, "(A)", [0, 0, 0, 0])

    def test_each_core_is_its_own(self):
        self.assertEqual(
            ask(core(0, "y"), core(3, "(B)"), core(1, "2?"), print_core(0), print_core(3), print_core(1),
                print_core(2)),
            [[0], [1], [0], row("y"), row("(B)"), row("2?"), [-4]])

    def test_a_core_said_anew_takes_the_place_of_the_old_one(self):
        self.assertEqual(ask(core(0, "y(A)"), core(0, "2?"), print_core(0), TIMES),
                         [[1], [0], row("2?"), told_times()])

    def test_a_core_said_anew_is_counted(self):
        self.assertEqual(last(core(0, "5y(A)"), whole(0, 0), core(0, "6y(A)"), bounds("A")), [0, 6, 0, 0])


class WrongTexts(unittest.TestCase):
    def check(self, text, k):
        """Wrong at place k, by itself, and so many places later behind a right beginning."""
        self.assertEqual(ask(core(0, text)), [[-100 - k]], text)
        for before in (" ", "y", "(Q)", " <1-2>  3?  "):
            self.assertEqual(ask(core(0, before + text)), [[-100 - k - len(before)]], before + text)

    def test_at_the_beginning(self):
        for text in ("x", "Y", "-", ")", ">", "A", "a", "\n", "\t", "\0", "\xff", "x y", "x(A)"):
            self.check(text, 1)

    def test_within(self):
        self.check("yxy", 2)
        self.check("3y  (A) * 2y", 9)
        self.check("(A)y(b)y", 5)
        self.check("y <3-2> y", 3)

    def test_at_the_end(self):
        self.check("y 12", 3)
        self.check("(A)(", 4)
        self.check("y<", 2)
        self.check("y(A", 2)
        self.check("  !", 3)
        self.check("2y 5?x", 6)
        self.assertEqual(last(core(0, "y" * 299 + "x")), [-400])

    def test_numbers(self):
        for text in ("0y", "0?", "00y", "01y", "01?", "0001y", "12345y", "10000?", "00000y", "1", "1234", "12 y",
                     "1(A)", "1<1-2>", "-1y", "+1y"):
            self.check(text, 1)

    def test_gaps(self):
        for text in ("<", "<>", "<->", "<1>", "<1->", "<-1>", "<1-2", "<1 -2>", "<1- 2>", "< 1-2>", "<1-2 >", "<2-1>",
                     "<1-0>", "<9999-9998>", "<10-9>", "<01-2>", "<1-02>", "<00-1>", "<0-00>", "<12345-12346>",
                     "<1-12345>", "<1-2-3>", "<1--2>", "<1y-2>", "<1-2)", "<1", "<1-", "<0->",
                     "<1x2>", "<1 2>", "<12>", "<1>2>", "<1-2-", "<x-2>", "<1-x>", "<1-2y>"):
            self.check(text, 1)

    def test_marks(self):
        for text in ("(", "()", "(A", "(a)", "(0)", "(9A)", "(Aa)", "(A B)", "( A)", "(A )", "(A-)", "(ABCDEFG)",
                     "(A>", "((A))", "(@)", "([)", "(A/)", "(A:)", "(A@)", "(A[)", "(A\xff)"):
            self.check(text, 1)

    def test_a_name_that_is_there_already(self):
        self.check("(A)(A)", 4)
        self.check("(A) y (B) 2? (A) x", 14)
        self.assertEqual(last(core(0, "(A)"), core(1, "(A)")), [1])

    def test_a_thirteenth_mark(self):
        text = marks(12)
        self.assertEqual(ask(core(0, text + "(B)")), [[-100 - len(text) - 1]])
        self.assertEqual(ask(core(0, text + " y  (B)  x")), [[-100 - len(text) - 5]])
        self.assertEqual(ask(core(0, text + "(A0)")), [[-100 - len(text) - 1]])
        self.assertEqual(ask(core(0, text + "y2?<1-2>")), [[12]])

    def test_the_first_wrong_place_is_told(self):
        self.assertEqual(ask(core(0, "y x (A)(A) 0y")), [[-103]])


class CoreRefusals(unittest.TestCase):
    def test_out_of_range(self):
        for c in (-1, 4, FAR, -FAR):
            self.assertEqual(ask(core(c, "y"), drop(c), print_core(c), parts(c)), [[-1]] * 4)
        for c in (0, 3):
            self.assertEqual(ask(core(c, "y"), drop(c)), [[0], [0]])

    def test_text_out_of_range(self):
        self.assertEqual(last(core(0, "y" * 300)), [0])
        for text in ("y" * 301, " " * 310, [-1], [256], [121, 121, FAR], [-FAR, 121]):
            self.assertEqual(last(core(0, text)), [-1])
        self.assertEqual(last(core(0, [0])), [-101])
        self.assertEqual(last(core(0, [255])), [-101])

    def test_out_of_range_is_told_ahead_of_the_rest(self):
        self.assertEqual(last(core(4, "x")), [-1])
        self.assertEqual(last(core(0, "x" * 301)), [-1])
        self.assertEqual(last(core(0, numbers_of("x") + [256])), [-1])
        self.assertEqual(last(core(0, marks(12)), core(1, marks(3, "B") + "x")), [-100 - 13])
        self.assertEqual(last(core(0, marks(12)), core(5, marks(3, "B"))), [-1])

    def test_fourteen_names_and_a_fifteenth(self):
        self.assertEqual(ask(core(0, marks(12)), core(1, "(B0)(B1)"), core(2, "(C)"), core(2, "(A0)(B1)")),
                         [[12], [2], [-5], [2]])
        self.assertEqual(ask(core(0, marks(12)), core(1, "(B0)(B1)(B2)"), core(1, "(B0)(B1)")), [[12], [-5], [2]])

    def test_names_of_things_said_and_of_what_is_set_aside_count(self):
        self.assertEqual(ask(core(0, marks(12)), whole(0, 0), say(0, 1, "B0"), [6, 0], core(1, "(C)(D)"),
                             core(1, "(C)(B0)")), [[12], [0], [0], [0], [-5], [2]])

    def test_the_names_of_the_old_core_do_not_count(self):
        self.assertEqual(ask(core(0, marks(12)), core(0, marks(12, "B")), core(1, "(C)(D)"), core(1, "(E)(F)")),
                         [[12], [12], [2], [2]])

    def test_a_refusal_changes_nothing(self):
        start = [core(0, marks(12) + "5y"), core(1, "2y(B)"), whole(1, 0), say(1, 1, "B"), say(0, 3, "B"), [6, 1]]
        before = ask(*start, *state(), bounds("B"))[len(start):]
        for call in (core(1, "x"), core(1, "(C)(D)x"), core(1, "(C)(D)(E)"), core(2, "(C)(D)"), core(-1, "y"),
                     core(1, "y" * 301), core(1, [256]), drop(2), drop(4), drop(-1), print_core(2), parts(9)):
            after = ask(*start, call, *state(), bounds("B"))[len(start):]
            self.assertLess(after[0][0], 0)
            self.assertEqual(len(after[0]), 1)
            self.assertEqual(after[1:], before)

    def test_no_core(self):
        for c in range(4):
            self.assertEqual(ask(drop(c), print_core(c), parts(c)), [[-4]] * 3)


class Drop(unittest.TestCase):
    def test_the_core_is_gone(self):
        self.assertEqual(ask(core(1, "y(A)"), core(2, "y"), drop(1), print_core(1), parts(1), drop(1), print_core(2)),
                         [[1], [0], [0], [-4], [-4], [-4], row("y")])

    def test_a_core_set_aside_is_dropped_and_can_be_printed_before(self):
        self.assertEqual(ask(core(0, "2y"), whole(0, 0), print_core(0), parts(0), drop(0), print_core(0)),
                         [[0], [0], row("2y"), [2, 2, 2], [0], [-4]])

    def test_its_names_go(self):
        self.assertEqual(ask(core(0, "(A)(B)"), core(1, "(B)(C)"), drop(0), TIMES, bounds("A")),
                         [[2], [2], [0], told_times("B", "C"), [-3]])

    def test_its_lines_go(self):
        self.assertEqual(ask(core(0, "5y(A)"), say(1, 4, "A"), [11], drop(0), [11], bounds("A")),
                         [[1], [0], [0], [0], [1], [0, 0, 1, 4]])


if __name__ == "__main__":
    unittest.main()
