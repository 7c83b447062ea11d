"""layer, and youngest, oldest and all: promises 16 and 17."""

import itertools
import random
import unittest

from calling import (ALL, FAR, OLDEST, YOUNGEST, aside, ask, back, bounds, core, drop, last, layer, say, whole)


class Layer(unittest.TestCase):
    def layers(self, calls, c, numbers):
        return ask(*calls, *[layer(c, i) for i in numbers])[len(calls):]

    def test_above_between_and_below_marks(self):
        calls = [core(0, "3y2?(A)<1-4>2y?(B)y"), say(0, 10, "A"), say(1, 10, "A")]
        self.assertEqual(self.layers(calls, 0, range(1, 11)),
                         [[0, 6, 1, 8], [0, 7, 1, 9], [0, 8, 1, 10], [0, 9, 1, 10], [0, 10, 1, 10],
                          [0, 12, 1, 15], [0, 13, 1, 16], [0, 13, 1, 17],
                          [0, 14, 1, 18], [-9]])

    def test_nothing_but_the_core(self):
        calls = [core(1, "2y 3? y")]
        self.assertEqual(self.layers(calls, 1, range(1, 8)),
                         [[0, 1, 0, 0], [0, 2, 0, 0], [0, 2, 0, 0], [0, 2, 0, 0], [0, 2, 0, 0], [0, 3, 0, 0], [-9]])

    def test_gaps_above_and_below_in_the_stretch(self):
        calls = [core(0, "(A)<2-5>y<1-3>2?<0-7>(B)"), say(0, 100, "A"), say(1, 100, "A"), say(0, 110, "B"),
                 say(1, 112, "B")]
        self.assertEqual(self.layers(calls, 0, range(1, 5)),
                         [[0, 103, 1, 106], [0, 104, 1, 110], [0, 104, 1, 111], [-9]])

    def test_bound_from_below_alone(self):
        calls = [core(0, "9?(A)5y2?<1-2>(B)"), say(1, 30, "B"), say(0, 28, "B")]
        self.assertEqual(self.layers(calls, 0, (1, 9, 10, 14, 15, 16)),
                         [[0, 11, 1, 24], [0, 19, 1, 24], [0, 20, 1, 25], [0, 24, 1, 29], [0, 25, 1, 29],
                          [0, 26, 1, 29]])

    def test_bound_from_above_alone(self):
        calls = [core(0, "(A)5y2?"), say(1, 30, "A"), say(0, 28, "A")]
        self.assertEqual(self.layers(calls, 0, (1, 5, 6, 7)),
                         [[0, 29, 1, 31], [0, 33, 1, 35], [0, 33, 1, 36], [0, 33, 1, 37]])

    def test_other_cores_and_things_count(self):
        calls = [core(0, "4?(A)4?(B)"), core(3, "(A)3y(B)"), say(1, 9, "B")]
        self.assertEqual(self.layers(calls, 0, (1, 4, 5, 6, 7, 8)),
                         [[0, 0, 1, 6], [0, 0, 1, 6], [0, 0, 1, 7], [0, 1, 1, 8], [0, 2, 1, 9], [0, 3, 1, 9]])
        self.assertEqual(self.layers(calls + [whole(3, 0)], 0, (4, 8)), [[0, 0, 1, 9], [0, 0, 1, 9]])

    def test_each_core(self):
        for c in range(4):
            self.assertEqual(self.layers([core(c, "y(A)2y(B)y"), say(1, 5, "A")], c, (1, 2, 3, 4, 5)),
                             [[0, 1, 1, 5], [0, 2, 1, 6], [0, 3, 1, 7], [0, 4, 1, 8], [-9]])

    def test_two_cores_are_not_mixed_up(self):
        calls = [core(0, "(A)2y(B)"), core(1, "7y(B)<2-2>3y(A)3y"), say(1, 0, "B"), whole(1, 0)]
        self.assertEqual(self.layers(calls[:2] + [whole(0, 0), say(1, 8, "B")], 1, (1, 7, 8, 10, 11, 13)),
                         [[0, 1, 1, 2], [0, 7, 1, 8], [0, 10, 1, 11], [0, 12, 1, 13], [0, 13, 1, 14], [0, 15, 1, 16]])
        self.assertEqual(self.layers(calls, 0, (1, 2)), [[-7], [-7]])

    def test_marks_and_gaps_are_no_layers(self):
        self.assertEqual(self.layers([core(0, "(A)<5-5>(B)")], 0, (1,)), [[-9]])
        self.assertEqual(self.layers([core(0, "")], 0, (1,)), [[-9]])
        self.assertEqual(self.layers([core(0, "<5-5>(A)y")], 0, (1, 2)), [[0, 6, 0, 0], [-9]])

    def test_ranges(self):
        for c in (-FAR, -1, 4, FAR):
            self.assertEqual(last(core(0, "y"), layer(c, 1)), [-1])
        for i in (-FAR, -1, 0, 100001, FAR):
            self.assertEqual(ask(layer(0, i), core(0, "9999y" * 11), layer(0, i)), [[-1], [0], [-1]])
        self.assertEqual(self.layers([core(0, "9999y" * 11)], 0, (1, 9999, 10000, 100000)),
                         [[0, 1, 0, 0], [0, 9999, 0, 0], [0, 10000, 0, 0], [0, 100000, 0, 0]])
        self.assertEqual(self.layers([core(0, "9999y" * 10)], 0, (99990, 99991, 100000)),
                         [[0, 99990, 0, 0], [-9], [-9]])

    def test_no_core(self):
        for c in range(4):
            self.assertEqual(ask(layer(c, 1), layer(c, 100000), core(c, "y"), drop(c), layer(c, 1)),
                             [[-4], [-4], [0], [0], [-4]])

    def test_set_aside(self):
        self.assertEqual(ask(core(0, "2y"), whole(0, 0), layer(0, 2), layer(0, 3), whole(0, 1), layer(0, 2)),
                         [[0], [0], [-10], [-9], [0], [0, 2, 0, 0]])

    def test_what_can_not_all_be_true_comes_last(self):
        against = [core(0, "2y"), core(1, "2y"), whole(1, 0), say(0, 6, "A"), say(1, 5, "A")]
        self.assertEqual(ask(*against, layer(0, 2), layer(0, 3), layer(1, 2), layer(1, 3), layer(2, 2),
                             layer(4, 2))[5:], [[-7], [-9], [-10], [-9], [-4], [-1]])


class AgainstAllYears(unittest.TestCase):
    """Goes through a core year by year, with every choice for each doubtful layer and gap."""

    LIMIT = 25

    ITEMS = (("y", [(1,)], 1), ("2y", [(1, 1)], 2), ("?", [(0,), (1,)], 1),
             ("2?", [(0, 0), (0, 1), (1, 0), (1, 1)], 2), ("<1-3>", [(1,), (2,), (3,)], 0), ("<0-1>", [(0,), (1,)], 0))

    def some_core(self, choose):
        items = [choose.choice(self.ITEMS) for k in range(choose.randrange(1, 5))]
        for mark in "AB":
            items.insert(choose.randrange(len(items) + 1), (f"({mark})", [()], 0))
        return items

    def all_years(self, items):
        """The age of each mark and each layer's end for the upper end at 0, for every choice."""
        for chosen in itertools.product(*[item[1] for item in items]):
            age = 0
            ages = {}
            ends = []
            for item, years in zip(items, chosen):
                if item[0][0] == "(":
                    ages[item[0][1]] = age
                for year in years:
                    age += year
                    if item[2] > 0:
                        ends.append(age)
            yield ages, ends

    def holds(self, thing, ages):
        kind, a, one, two = thing
        if kind == 0:
            return ages[one] >= a
        if kind == 1:
            return ages[one] <= a
        if kind == 2:
            return ages[one] >= ages[two] + a
        return abs(ages[one] - ages[two]) <= a

    def test_layer(self):
        choose = random.Random(3)
        seen = {0: 0, 1: 0, -7: 0}
        for case in range(300):
            items = self.some_core(choose)
            things = []
            for k in range(choose.randrange(4)):
                kind = choose.randrange(4)
                names = choose.choice(["AB", "BA"])
                things.append((kind, choose.randrange(0, 9), names[0], names[1]))
            found = []
            for ages, ends in self.all_years(items):
                for start in range(self.LIMIT + 1):
                    shifted = {name: age + start for name, age in ages.items()}
                    if all(self.holds(thing, shifted) for thing in things):
                        found.append([end + start for end in ends])
            calls = [core(2, "".join(item[0] for item in items))]
            calls += [say(kind, a, one, two if kind > 1 else "") for kind, a, one, two in things]
            how_many = sum(item[2] for item in items)
            told = ask(*calls, *[layer(2, i) for i in range(1, how_many + 2)])[len(calls):]
            self.assertEqual(told[-1], [-9])
            for i, answer in enumerate(told[:-1]):
                due = [-7]
                if found:
                    greatest = max(ends[i] for ends in found)
                    due = [0, min(ends[i] for ends in found)]
                    due += [0, 0] if greatest >= self.LIMIT else [1, greatest]
                self.assertEqual(answer, due, (calls, i + 1))
                seen[due[2] if found else -7] += 1
        self.assertGreater(min(seen.values()), 50)


class AgesOfAllNames(unittest.TestCase):
    def all_three(self, calls):
        return ask(*calls, YOUNGEST, OLDEST, ALL)[-3:]

    def test_no_names(self):
        self.assertEqual(self.all_three([]), [[0], [0], [0]])
        self.assertEqual(self.all_three([core(0, "5y")]), [[0], [0], [0]])

    def test_all_have_a_greatest_age(self):
        calls = [core(0, "2y?(A)3y4?(B)<1-2>(C)9y"), say(1, 10, "A"), say(0, 4, "A")]
        self.assertEqual(self.all_three(calls), [[0, 4, 7, 8], [0, 10, 17, 19],
                                                 [0, 4, 1, 10, 7, 1, 17, 8, 1, 19]])

    def test_some_have_none(self):
        calls = [say(0, 5, "B"), say(1, 9, "A")]
        self.assertEqual(self.all_three(calls), [[0, 5, 0], [-9], [0, 5, 0, 0, 0, 1, 9]])
        calls = [say(1, 9, "A"), say(0, 5, "B")]
        self.assertEqual(self.all_three(calls), [[0, 0, 5], [-9], [0, 0, 1, 9, 5, 0, 0]])

    def test_a_core_s_ends_need_no_greatest_age(self):
        self.assertEqual(self.all_three([core(0, "5y"), say(1, 9, "A")]), [[0, 0], [0, 9], [0, 0, 1, 9]])

    def test_the_names_order(self):
        calls = [say(0, 1, "A"), say(0, 2, "B"), core(2, "3y(C)y(A)"), core(1, "5y(D)"), say(3, 0, "B", "E")]
        self.assertEqual(self.all_three(calls + [say(1, 9, name) for name in "ABCDE"]),
                         [[0, 5, 3, 4, 2, 2], [0, 9, 8, 9, 9, 9],
                          [0, 5, 1, 9, 3, 1, 8, 4, 1, 9, 2, 1, 9, 2, 1, 9]])

    def test_what_is_set_aside_or_dropped(self):
        calls = [core(0, "5y(A)"), say(1, 9, "B"), whole(0, 0), aside(0)]
        self.assertEqual(self.all_three(calls), [[0, 0, 0], [-9], [0, 0, 0, 0, 0, 0, 0]])
        self.assertEqual(self.all_three(calls + [whole(0, 1), back(0)]), [[0, 5, 0], [-9], [0, 5, 0, 0, 0, 1, 9]])
        self.assertEqual(self.all_three(calls + [drop(0), back(0)]), [[0, 0], [0, 9], [0, 0, 1, 9]])

    def test_what_can_not_all_be_true(self):
        self.assertEqual(self.all_three([say(0, 6, "A"), say(1, 5, "A")]), [[-7], [-7], [-7]])
        self.assertEqual(self.all_three([say(0, 6, "A"), say(1, 5, "A"), say(0, 1, "B")]), [[-7], [-7], [-7]])
        self.assertEqual(self.all_three([core(0, "(A)y(B)"), core(1, "(A)(B)")]), [[-7], [-7], [-7]])

    def test_as_bounds_tells(self):
        calls = [core(0, "".join(f"y?(A{k})" for k in range(12))), say(2, 5, "B", "A11"), say(3, 2, "C", "B"),
                 say(1, 40, "C")]
        names = [f"A{k}" for k in range(12)] + ["B", "C"]
        told = ask(*calls, *[bounds(name) for name in names], YOUNGEST, OLDEST, ALL)[len(calls):]
        each = told[:14]
        self.assertEqual(told[14], [0] + [answer[1] for answer in each])
        self.assertEqual(told[15], [0] + [answer[3] for answer in each])
        self.assertEqual(told[16], [0] + sum([answer[1:] for answer in each], []))


if __name__ == "__main__":
    unittest.main()
