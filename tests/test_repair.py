"""matters and repair: promises 22 and 23."""

import unittest

from calling import FAR, POSSIBLE, REPAIR, RING, aside, ask, back, core, drop, last, matters, say, whole


class Matters(unittest.TestCase):
    def each(self, calls, *numbers):
        return [answer[0] for answer in ask(*calls, *[matters(k) for k in numbers])[len(calls):]]

    def test_each_kind_alone(self):
        self.assertEqual(self.each([say(0, 1, "A"), say(0, 0, "A"), say(0, -1, "A")], 0, 1, 2), [1, 0, 0])
        self.assertEqual(self.each([say(1, 100000, "A"), say(1, 0, "B")], 0, 1), [1, 1])
        self.assertEqual(self.each([say(2, 1, "A", "B"), say(2, -100000, "C", "D")], 0, 1), [1, 1])
        self.assertEqual(self.each([say(3, 0, "A", "B"), say(3, 100000, "C", "D")], 0, 1), [1, 1])

    def test_what_follows_from_the_rest(self):
        self.assertEqual(self.each([say(0, 5, "A"), say(0, 6, "A")], 0, 1), [0, 1])
        self.assertEqual(self.each([say(1, 5, "A"), say(1, 6, "A")], 0, 1), [1, 0])
        self.assertEqual(self.each([say(2, 1, "A", "B"), say(2, 2, "B", "C"), say(2, 3, "A", "C")], 0, 1, 2),
                         [1, 1, 0])
        self.assertEqual(self.each([say(2, 1, "A", "B"), say(2, 2, "B", "C"), say(2, 4, "A", "C")], 0, 1, 2),
                         [1, 1, 1])
        self.assertEqual(self.each([say(3, 2, "A", "B"), say(3, 3, "B", "A"), say(3, 1, "A", "B")], 0, 1, 2),
                         [0, 0, 1])

    def test_what_follows_from_a_core(self):
        calls = [core(0, "3y(A)2y4?(B)"), say(0, 3, "A"), say(0, 4, "A"), say(2, 2, "B", "A"), say(3, 6, "A", "B")]
        self.assertEqual(self.each(calls, 0, 1, 2, 3), [0, 1, 0, 0])
        self.assertEqual(self.each(calls + [whole(0, 0)], 0, 1, 2, 3), [0, 1, 1, 1])
        self.assertEqual(self.each(calls + [drop(0)], 0, 1, 2, 3), [0, 1, 1, 1])

    def test_of_two_that_say_the_same_neither(self):
        calls = [say(0, 5, "A"), say(0, 5, "A")]
        self.assertEqual(self.each(calls, 0, 1), [0, 0])
        self.assertEqual(self.each(calls + [aside(0)], 1), [1])
        self.assertEqual(self.each(calls + [aside(1), back(1)], 0, 1), [0, 0])

    def test_one_line_of_kind_3_is_enough(self):
        calls = [say(2, -2, "A", "B"), say(3, 2, "A", "B")]
        self.assertEqual(self.each(calls, 0, 1), [0, 1])
        calls = [say(2, -2, "B", "A"), say(3, 2, "A", "B")]
        self.assertEqual(self.each(calls, 0, 1), [0, 1])
        calls = [say(2, -2, "B", "A"), say(3, 2, "A", "B"), say(2, -2, "A", "B")]
        self.assertEqual(self.each(calls, 0, 1, 2), [0, 0, 0])

    def test_just_kept_and_not_just(self):
        for a, matter in ((6, 1), (7, 0), (8, 0)):
            self.assertEqual(self.each([say(1, 10, "A"), say(2, 3, "A", "B"), say(1, a, "B")], 2), [matter])
        for a, matter in ((12, 0), (13, 0), (14, 1)):
            self.assertEqual(self.each([say(0, 10, "A"), say(2, 3, "B", "A"), say(0, a, "B")], 2), [matter])

    def test_refusals(self):
        for k in (-FAR, -1, 2, 12, FAR):
            self.assertEqual(ask(matters(k), say(0, 5, "A"), say(0, 6, "B"), matters(k)), [[-4], [0], [1], [-4]])
        self.assertEqual(ask(matters(0), say(0, 5, "A"), matters(1), matters(0)), [[-4], [0], [-4], [1]])
        self.assertEqual(ask(say(0, 5, "A"), aside(0), matters(0), matters(1), back(0), matters(0)),
                         [[0], [0], [-10], [-4], [0], [1]])

    def test_what_can_not_all_be_true_comes_last(self):
        against = [say(0, 6, "A"), say(1, 5, "A"), say(0, 2, "B"), aside(2)]
        self.assertEqual(self.each(against, 0, 1, 2, 3, -1), [-7, -7, -10, -4, -4])
        self.assertEqual(self.each(against + [aside(1)], 0, 1, 2), [1, -10, -10])

    def test_a_thing_s_number_is_no_core_s(self):
        things = [say(0, k, "A") for k in range(12)]
        self.assertEqual(self.each([core(0, "y(A)")] + things, *range(12)), [0] * 11 + [1])


class Repair(unittest.TestCase):
    def pairs(self, how_many):
        """So many pairs of things that are against one another, and nothing else is."""
        calls = []
        for k in range(how_many):
            calls += [say(0, 6, f"A{k}"), say(1, 5, f"A{k}")]
        return calls

    def test_nothing_to_be_set_aside(self):
        self.assertEqual(ask(REPAIR, core(0, "5y(A)"), REPAIR, say(1, 5, "A"), REPAIR), [[0], [1], [0], [0], [0]])
        self.assertEqual(last(*self.pairs(5), *[aside(k) for k in range(0, 10, 2)], REPAIR), [0])

    def test_one_two_and_three(self):
        self.assertEqual(last(*self.pairs(1), REPAIR), [1, 0])
        self.assertEqual(last(*self.pairs(2), REPAIR), [2, 0, 2])
        self.assertEqual(last(*self.pairs(3), REPAIR), [3, 0, 2, 4])

    def test_more_than_three(self):
        self.assertEqual(last(*self.pairs(4), REPAIR), [-9])
        self.assertEqual(last(*self.pairs(6), REPAIR), [-9])
        self.assertEqual(last(*self.pairs(4), aside(5), REPAIR), [3, 0, 2, 6])

    def test_what_can_not_be_repaired(self):
        against = [core(0, "(A)y(B)"), core(1, "(A)(B)")]
        self.assertEqual(last(*against, REPAIR), [-9])
        self.assertEqual(last(*against, say(0, 5, "A"), REPAIR), [-9])
        self.assertEqual(last(*against, *self.pairs(1), REPAIR), [-9])
        self.assertEqual(last(*against, *self.pairs(1), whole(1, 0), REPAIR), [1, 0])
        self.assertEqual(last(*against, *self.pairs(1), drop(0), REPAIR), [1, 0])

    def test_a_thing_against_nothing_but_the_present(self):
        self.assertEqual(ask(say(0, 5, "B"), say(1, -1, "A"), REPAIR)[2], [1, 1])

    def test_a_thing_against_a_core(self):
        self.assertEqual(ask(core(0, "3y(A)"), say(0, 1, "A"), say(1, 2, "A"), REPAIR)[3], [1, 1])

    def test_the_smaller_set_goes_before_the_first(self):
        self.assertEqual(last(say(0, 6, "A"), say(0, 7, "A"), say(1, 5, "A"), REPAIR), [1, 2])
        self.assertEqual(last(say(0, 6, "A"), say(0, 7, "B"), say(0, 8, "C"), say(2, 0, "D", "A"), say(2, 0, "D", "B"),
                              say(2, 0, "D", "C"), say(1, 5, "D"), REPAIR), [1, 6])

    def test_of_several_the_first(self):
        calls = [say(0, 1, "B"), say(1, 9, "A"), say(2, 5, "A", "B"), say(0, 5, "B"), say(0, 1, "A")]
        self.assertEqual(last(*calls, REPAIR), [1, 1])
        calls = [say(1, 5, "A"), say(1, 5, "B"), say(0, 6, "A"), say(0, 6, "B"), say(0, 7, "B")]
        self.assertEqual(last(*calls, REPAIR), [2, 0, 1])
        calls = [say(1, 5, "A"), say(0, 6, "B"), say(0, 6, "A"), say(1, 5, "B"), say(0, 7, "B")]
        self.assertEqual(last(*calls, REPAIR), [2, 0, 3])
        calls = [say(0, 6, "B"), say(0, 7, "B"), say(0, 6, "A"), say(1, 5, "B"), say(1, 5, "A")]
        self.assertEqual(last(*calls, REPAIR), [2, 2, 3])

    def test_the_numbers_are_those_of_the_things(self):
        calls = [say(0, 1, "C"), aside(0), *self.pairs(1), say(0, 1, "D"), aside(3), say(2, 1, "E", "F"),
                 say(2, 0, "F", "E")]
        self.assertEqual(last(*calls, REPAIR), [2, 1, 4])
        self.assertEqual(last(*[say(0, 1, "C")] * 9, *self.pairs(1), REPAIR), [1, 9])
        self.assertEqual(last(*[say(0, 1, "C")] * 10, *self.pairs(1), REPAIR), [1, 10])

    def test_kind_3_goes_as_a_whole(self):
        calls = [say(2, 5, "A", "B"), say(2, 5, "B", "C"), say(3, 4, "A", "B"), say(3, 4, "C", "B")]
        self.assertEqual(last(*calls, REPAIR), [2, 0, 1])
        self.assertEqual(last(*calls, say(2, 6, "A", "B"), REPAIR), [2, 1, 2])

    def test_what_is_told_repairs_and_nothing_is_changed_by_asking(self):
        calls = self.pairs(3)
        told = ask(*calls, REPAIR, POSSIBLE, REPAIR, aside(0), aside(2), POSSIBLE, aside(4), POSSIBLE, RING)[6:]
        self.assertEqual(told, [[3, 0, 2, 4], [0], [3, 0, 2, 4], [0], [0], [0], [0], [1], [0]])

    def test_twelve_things(self):
        links = [say(2, 1, f"A{k}", f"A{k + 1}") for k in range(11)]
        self.assertEqual(last(*links, say(1, 10, "A0"), REPAIR), [1, 0])
        self.assertEqual(last(*links, say(1, 11, "A0"), REPAIR), [0])
        self.assertEqual(last(*links, say(1, -1, "A0"), REPAIR), [1, 11])


if __name__ == "__main__":
    unittest.main()
