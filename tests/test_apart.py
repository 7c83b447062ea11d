"""apart, order, suppose: promises 12 and 15."""

import unittest

from calling import FAR, aside, apart, ask, back, core, drop, last, order, say, suppose, whole

WRONG_NAMES = ("", "a", "0A", "ABCDEFG", "ABCDEFGH", "A B", "(A)", [256], [-1], [65, FAR], [-FAR])


class Apart(unittest.TestCase):
    def both(self, calls, one, two):
        return ask(*calls, apart(one, two), apart(two, one))[-2:]

    def test_each_kind_of_thing(self):
        self.assertEqual(self.both([say(2, 3, "A", "B")], "A", "B"), [[0, 1, 3, 0, 0], [0, 0, 0, 1, -3]])
        self.assertEqual(self.both([say(2, -3, "A", "B")], "A", "B"), [[0, 1, -3, 0, 0], [0, 0, 0, 1, 3]])
        self.assertEqual(self.both([say(3, 2, "A", "B")], "A", "B"), [[0, 1, -2, 1, 2], [0, 1, -2, 1, 2]])
        self.assertEqual(self.both([say(3, 0, "A", "B")], "A", "B"), [[0, 1, 0, 1, 0], [0, 1, 0, 1, 0]])
        self.assertEqual(self.both([say(0, 5, "A"), say(1, 9, "B")], "A", "B"), [[0, 1, -4, 0, 0], [0, 0, 0, 1, 4]])
        self.assertEqual(self.both([say(1, 5, "A"), say(1, 9, "B")], "A", "B"), [[0, 1, -9, 1, 5], [0, 1, -5, 1, 9]])

    def test_no_bound_on_either_side(self):
        self.assertEqual(self.both([say(0, 5, "A"), say(0, 9, "B")], "A", "B"), [[0, 0, 0, 0, 0], [0, 0, 0, 0, 0]])

    def test_the_same_name_twice(self):
        for calls in ([say(0, 5, "A")], [say(1, 5, "A")], [core(0, "2?(A)")], [core(0, "(A)"), whole(0, 0)]):
            self.assertEqual(last(*calls, apart("A", "A")), [0, 1, 0, 1, 0])

    def test_a_core(self):
        self.assertEqual(self.both([core(0, "2y(A)3y4?(B)<0-9>")], "B", "A"), [[0, 1, 3, 1, 7], [0, 1, -7, 1, -3]])
        self.assertEqual(ask(core(2, "(A)3y(B)<1-4>(C)"), apart("C", "A"), apart("A", "C"))[1:],
                         [[0, 1, 4, 1, 7], [0, 1, -7, 1, -4]])

    def test_over_several_names(self):
        calls = [core(0, "(A)5y2?(B)"), core(1, "(B)<3-4>(C)"), say(2, 10, "D", "C"), say(1, 40, "D"), say(0, 7, "A")]
        self.assertEqual(ask(*calls, apart("D", "A"), apart("C", "A"), apart("A", "D"))[5:],
                         [[0, 1, 18, 1, 33], [0, 1, 8, 1, 11], [0, 1, -33, 1, -18]])

    def test_what_is_set_aside_is_not_reckoned(self):
        self.assertEqual(ask(core(0, "(A)3y(B)"), whole(0, 0), apart("B", "A"), whole(0, 1), apart("B", "A")),
                         [[2], [0], [0, 0, 0, 0, 0], [0], [0, 1, 3, 1, 3]])
        self.assertEqual(ask(say(3, 3, "A", "B"), aside(0), apart("B", "A"), back(0), apart("B", "A")),
                         [[0], [0], [0, 0, 0, 0, 0], [0], [0, 1, -3, 1, 3]])

    def test_a_core_that_is_dropped(self):
        self.assertEqual(ask(core(0, "(A)3y(B)"), drop(0), apart("B", "A"), say(2, 1, "B", "A"), apart("B", "A")),
                         [[2], [0], [-3], [0], [0, 1, 1, 0, 0]])

    def test_great_numbers(self):
        links = [say(2, 100000, f"A{k}", f"A{k + 1}") for k in range(12)]
        self.assertEqual(last(*links, apart("A0", "A12")), [0, 1, 1200000, 0, 0])
        self.assertEqual(last(*links, apart("A12", "A0")), [0, 0, 0, 1, -1200000])


class Order(unittest.TestCase):
    def both(self, calls, one, two):
        return ask(*calls, order(one, two), order(two, one))[-2:]

    def test_older_alone(self):
        self.assertEqual(self.both([say(2, 1, "A", "B")], "A", "B"), [[0, 1, 0, 0], [0, 0, 0, 1]])
        self.assertEqual(self.both([core(0, "(B)y9?(A)")], "A", "B"), [[0, 1, 0, 0], [0, 0, 0, 1]])

    def test_older_or_of_one_age(self):
        self.assertEqual(self.both([say(2, 0, "A", "B")], "A", "B"), [[0, 1, 1, 0], [0, 0, 1, 1]])
        self.assertEqual(self.both([core(0, "(B)?(A)")], "A", "B"), [[0, 1, 1, 0], [0, 0, 1, 1]])

    def test_of_one_age_alone(self):
        self.assertEqual(self.both([say(3, 0, "A", "B")], "A", "B"), [[0, 0, 1, 0], [0, 0, 1, 0]])
        self.assertEqual(self.both([core(0, "(A)(B)")], "A", "B"), [[0, 0, 1, 0], [0, 0, 1, 0]])

    def test_any(self):
        self.assertEqual(self.both([say(2, -1, "A", "B")], "A", "B"), [[0, 1, 1, 1], [0, 1, 1, 1]])
        self.assertEqual(self.both([say(3, 1, "A", "B")], "A", "B"), [[0, 1, 1, 1], [0, 1, 1, 1]])
        self.assertEqual(self.both([say(0, 5, "A"), say(0, 9, "B")], "A", "B"), [[0, 1, 1, 1], [0, 1, 1, 1]])

    def test_over_the_present(self):
        self.assertEqual(self.both([say(0, 6, "A"), say(1, 5, "B")], "A", "B"), [[0, 1, 0, 0], [0, 0, 0, 1]])
        self.assertEqual(self.both([say(0, 5, "A"), say(1, 5, "B")], "A", "B"), [[0, 1, 1, 0], [0, 0, 1, 1]])
        self.assertEqual(self.both([say(0, 4, "A"), say(1, 5, "B")], "A", "B"), [[0, 1, 1, 1], [0, 1, 1, 1]])

    def test_the_same_name_twice(self):
        for calls in ([say(0, 5, "A")], [say(1, 5, "A")], [core(0, "2?(A)")], [core(0, "(A)"), whole(0, 0)]):
            self.assertEqual(last(*calls, order("A", "A")), [0, 0, 1, 0])

    def test_what_is_set_aside_or_dropped(self):
        self.assertEqual(ask(core(0, "(A)3y(B)"), order("A", "B"), whole(0, 0), order("A", "B"), drop(0),
                             order("A", "B")), [[2], [0, 0, 0, 1], [0], [0, 1, 1, 1], [0], [-3]])
        self.assertEqual(ask(say(2, 3, "A", "B"), order("A", "B"), aside(0), order("A", "B"), back(0),
                             order("A", "B")), [[0], [0, 1, 0, 0], [0], [0, 1, 1, 1], [0], [0, 1, 0, 0]])


class Refusals(unittest.TestCase):
    """Those that apart, order and suppose have in common."""

    def refused(self, calls, one, two, refusal):
        told = ask(*calls, apart(one, two), apart(two, one), order(one, two), order(two, one), suppose(6, one, two),
                   suppose(6, two, one))[len(calls):]
        self.assertEqual(told, [[refusal]] * 6, (one, two))

    def test_names_that_are_none(self):
        for wrong in WRONG_NAMES:
            self.refused([say(0, 5, "A")], wrong, "A", -1)
            self.refused([say(0, 5, "A")], wrong, wrong, -1)

    def test_a_wrong_name_goes_before_an_unknown_one(self):
        self.refused([say(0, 5, "A")], "B", "b", -1)
        self.refused([say(0, 6, "A"), say(1, 5, "A")], "A", "b", -1)

    def test_names_that_are_not_there(self):
        self.refused([], "A", "A", -3)
        self.refused([say(0, 5, "A")], "A", "B", -3)
        self.refused([say(0, 5, "A")], "A", "AA", -3)
        self.refused([say(0, 5, "A"), core(0, "(B)"), drop(0)], "A", "B", -3)

    def test_an_unknown_name_goes_before_what_can_not_all_be_true(self):
        self.refused([say(0, 6, "A"), say(1, 5, "A")], "A", "B", -3)

    def test_what_can_not_all_be_true(self):
        against = [say(0, 6, "A"), say(1, 5, "A"), say(0, 2, "B")]
        self.refused(against, "A", "B", -7)
        self.refused(against, "B", "B", -7)


class Suppose(unittest.TestCase):
    def test_name_two_follows(self):
        calls = [core(0, "(A)3y4?(B)")]
        self.assertEqual(ask(*calls, suppose(10, "A", "B"), suppose(10, "B", "A"))[1:],
                         [[0, 13, 1, 17], [0, 3, 1, 7]])
        self.assertEqual(last(*calls, suppose(5, "B", "A")), [0, 0, 1, 2])
        calls = [say(2, 3, "A", "B")]
        self.assertEqual(ask(*calls, suppose(10, "A", "B"), suppose(10, "B", "A"))[1:],
                         [[0, 0, 1, 7], [0, 13, 0, 0]])

    def test_what_holds_anyway_still_holds(self):
        calls = [say(3, 5, "A", "B"), say(0, 8, "B"), say(1, 12, "B")]
        self.assertEqual(ask(*calls, suppose(10, "A", "B"), suppose(4, "A", "B"), suppose(16, "A", "B"))[3:],
                         [[0, 8, 1, 12], [0, 8, 1, 9], [0, 11, 1, 12]])

    def test_names_that_have_nothing_to_do_with_one_another(self):
        calls = [say(0, 5, "A"), say(0, 2, "B"), say(1, 9, "C")]
        self.assertEqual(ask(*calls, suppose(7, "A", "B"), suppose(7, "A", "C"), suppose(7, "C", "A"))[3:],
                         [[0, 2, 0, 0], [0, 0, 1, 9], [0, 5, 0, 0]])

    def test_the_least_and_the_greatest_age_and_one_beyond(self):
        calls = [say(0, 5, "A"), say(1, 9, "A"), say(3, 2, "A", "B")]
        self.assertEqual(ask(*calls, suppose(4, "A", "B"), suppose(5, "A", "B"), suppose(9, "A", "B"),
                             suppose(10, "A", "B"))[3:],
                         [[-8], [0, 3, 1, 7], [0, 7, 1, 11], [-8]])
        self.assertEqual(ask(*calls, suppose(2, "B", "A"), suppose(3, "B", "A"), suppose(11, "B", "A"),
                             suppose(12, "B", "A"))[3:],
                         [[-8], [0, 5, 1, 5], [0, 9, 1, 9], [-8]])
        self.assertEqual(ask(say(0, 5, "A"), suppose(4, "A", "A"), suppose(5, "A", "A"))[1:], [[-8], [0, 5, 1, 5]])

    def test_the_same_name_twice(self):
        calls = [say(0, 5, "A"), say(1, 9, "A")]
        self.assertEqual(ask(*calls, *[suppose(a, "A", "A") for a in (4, 5, 7, 9, 10)])[2:],
                         [[-8], [0, 5, 1, 5], [0, 7, 1, 7], [0, 9, 1, 9], [-8]])

    def test_the_range_of_the_age(self):
        calls = [say(3, 0, "A", "B")]
        self.assertEqual(ask(*calls, *[suppose(a, "A", "B") for a in (-FAR, -1, 0, 1, 1000000, 1000001, FAR)])[1:],
                         [[-1], [-1], [0, 0, 1, 0], [0, 1, 1, 1], [0, 1000000, 1, 1000000], [-1], [-1]])

    def test_an_age_out_of_range_goes_before_all_else(self):
        for a in (-1, 1000001):
            self.assertEqual(ask(suppose(a, "A", "B"), say(0, 6, "A"), say(1, 5, "A"), suppose(a, "A", "A")),
                             [[-1], [0], [1], [-1]])

    def test_what_can_not_all_be_true_goes_before_an_age_that_can_not_be(self):
        self.assertEqual(last(say(0, 6, "A"), say(1, 5, "A"), say(0, 9, "B"), suppose(3, "B", "A")), [-7])

    def test_nothing_is_kept_of_it(self):
        calls = [say(3, 5, "A", "B"), suppose(3, "A", "B"), suppose(9, "A", "B"), apart("A", "B")]
        self.assertEqual(ask(*calls)[1:], [[0, 0, 1, 8], [0, 4, 1, 14], [0, 1, -5, 1, 5]])

    def test_what_is_set_aside_or_dropped(self):
        calls = [core(0, "(A)3y(B)"), suppose(5, "A", "B"), whole(0, 0), suppose(5, "A", "B"), drop(0),
                 suppose(5, "A", "B")]
        self.assertEqual(ask(*calls), [[2], [0, 8, 1, 8], [0], [0, 0, 0, 0], [0], [-3]])
        calls = [say(1, 4, "A"), suppose(5, "A", "A"), aside(0), suppose(5, "A", "A")]
        self.assertEqual(ask(*calls), [[0], [-8], [0], [0, 5, 1, 5]])


if __name__ == "__main__":
    unittest.main()
