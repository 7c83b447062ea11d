"""why, ring, check: promises 19, 20 and 21."""

import random
import unittest

from calling import (FAR, POSSIBLE, RING, aside, ask, back, bounds, check, core, drop, last, say, told_lines, whole,
                     why)


class Why(unittest.TestCase):
    def asked(self, calls, side, name, *lines):
        self.assertEqual(last(*calls, why(side, name)), told_lines(*lines))

    def test_one_line(self):
        self.asked([say(0, 5, "A")], 0, "A", (1, 0, -5, 0))
        self.asked([say(1, 9, "A")], 1, "A", (0, 1, 9, 0))
        self.asked([say(1, 0, "A")], 1, "A", (0, 1, 0, 0))
        self.asked([say(1, 9, "A")], 0, "A", (1, 0, 0, 200))

    def test_several_lines(self):
        calls = [core(0, "2y(A)3y4?(B)<1-2>(C)"), say(1, 30, "C"), say(0, 8, "A"), say(2, 5, "D", "C")]
        self.asked(calls, 0, "D", (4, 3, -5, 2), (3, 2, -1, 100), (2, 1, -3, 100), (1, 0, -8, 1))
        self.asked(calls, 1, "A", (0, 3, 30, 0), (3, 2, -1, 100), (2, 1, -3, 100))
        self.asked(calls, 1, "B", (0, 3, 30, 0), (3, 2, -1, 100))

    def test_over_a_core_s_upper_end(self):
        self.asked([core(2, "2y(A)3y(B)")], 0, "B", (2, 1, -3, 102), (1, 7, -2, 102), (7, 0, 0, 200))

    def test_over_both_lines_of_kind_3(self):
        calls = [say(3, 4, "A", "B"), say(0, 9, "A"), say(1, 20, "B")]
        self.asked(calls, 0, "B", (2, 1, 4, 0), (1, 0, -9, 1))
        self.asked(calls, 1, "A", (0, 2, 20, 2), (2, 1, 4, 0))

    def test_the_fewest_lines(self):
        calls = [say(2, 5, "A", "B"), say(0, 5, "B"), say(0, 10, "A")]
        self.asked(calls, 0, "A", (1, 0, -10, 2))
        calls = [say(2, -5, "B", "A"), say(1, 5, "B"), say(1, 10, "A")]
        self.asked(calls, 1, "A", (0, 2, 10, 2))
        # Over B and C there are three lines, over D two.
        calls = [say(2, 1, "A", "B"), say(2, 1, "B", "C"), say(0, 4, "C"), say(2, 3, "A", "D"), say(0, 3, "D")]
        self.asked(calls, 0, "A", (1, 4, -3, 3), (4, 0, -3, 4))

    def test_a_way_round_that_takes_nothing_is_not_told(self):
        self.asked([say(3, 0, "A", "B"), say(0, 4, "C"), say(2, 1, "B", "C")], 0, "A",
                   (1, 2, 0, 0), (2, 3, -1, 2), (3, 0, -4, 1))
        self.asked([core(0, "(A)(B)"), core(1, "(B)(A)"), say(0, 4, "A")], 0, "A", (1, 0, -4, 0))

    def test_the_least_second_time(self):
        # B is time 1 and C is time 2, though the things about C are said first.
        calls = [say(3, 99, "B", "C"), say(2, 5, "A", "C"), say(0, 5, "C"), say(2, 4, "A", "B"), say(0, 6, "B")]
        self.asked(calls, 0, "A", (3, 1, -4, 3), (1, 0, -6, 4))
        calls = [say(3, 99, "B", "C"), say(2, -5, "C", "A"), say(1, 5, "C"), say(2, -4, "B", "A"), say(1, 6, "B")]
        self.asked(calls, 1, "A", (0, 1, 6, 4), (1, 3, 4, 3))

    def test_the_least_third_time(self):
        calls = [say(3, 99, "B", "C"), say(2, 1, "A", "D"), say(2, 5, "D", "C"), say(0, 5, "C"), say(2, 4, "D", "B"),
                 say(0, 6, "B")]
        self.asked(calls, 0, "A", (3, 4, -1, 1), (4, 1, -4, 4), (1, 0, -6, 5))
        calls = [say(3, 99, "B", "C"), say(1, 1, "D"), say(2, -5, "D", "C"), say(2, -5, "C", "A"), say(2, -4, "D", "B"),
                 say(2, -6, "B", "A")]
        self.asked(calls, 1, "A", (0, 3, 1, 1), (3, 1, 4, 4), (1, 4, 6, 5))

    def test_the_second_time_goes_before_the_third(self):
        # Over 2 and 4, or over 3 and 1.
        calls = [say(3, 99, "A", "B"), say(3, 99, "C", "D"), say(2, 1, "E", "C"), say(2, 1, "C", "A"), say(0, 1, "A"),
                 say(2, 1, "E", "B"), say(2, 1, "B", "D"), say(0, 1, "D")]
        self.asked(calls, 0, "E", (5, 2, -1, 5), (2, 4, -1, 6), (4, 0, -1, 7))

    def test_the_least_source(self):
        calls = [core(0, "(A)5y(B)"), core(1, "(A)5y(B)"), say(0, 3, "A"), say(0, 3, "A")]
        self.asked(calls, 0, "B", (2, 1, -5, 100), (1, 0, -3, 0))
        self.asked(calls + [whole(0, 0)], 0, "B", (2, 1, -5, 101), (1, 0, -3, 0))
        self.asked(calls + [aside(0)], 0, "B", (2, 1, -5, 100), (1, 0, -3, 1))
        self.asked(calls + [say(2, 5, "B", "A")], 0, "B", (2, 1, -5, 2), (1, 0, -3, 0))
        self.asked([say(1, 5, "A"), say(1, 5, "A")], 1, "A", (0, 1, 5, 0))
        self.asked([say(0, 0, "A")], 0, "A", (1, 0, 0, 0))

    def test_the_number_goes_before_the_source(self):
        self.asked([say(0, 3, "A"), say(0, 4, "A")], 0, "A", (1, 0, -4, 1))
        self.asked([say(1, 5, "A"), say(1, 4, "A"), say(1, 6, "A")], 1, "A", (0, 1, 4, 1))
        self.asked([say(0, -3, "A")], 0, "A", (1, 0, 0, 200))

    def test_the_longest_chain(self):
        links = [say(2, 1, f"A{k}", f"A{k + 1}") for k in range(12)]
        self.asked(links, 0, "A0", *[(k, k + 1, -1, k - 1) for k in range(1, 13)], (13, 0, 0, 200))
        links = [say(1, 1, "A0")] + [say(2, -1, f"A{k}", f"A{k + 1}") for k in range(11)]
        marks = core(0, "".join(f"y(B{k})" for k in range(2)))
        self.asked(links + [marks], 1, "A11", (0, 3, 1, 0), *[(k + 2, k + 3, 1, k) for k in range(1, 12)])

    def test_what_is_set_aside_is_not_told(self):
        calls = [core(0, "4y(A)"), say(0, 5, "A"), aside(0)]
        self.asked(calls, 0, "A", (1, 2, -4, 100), (2, 0, 0, 200))
        self.asked(calls + [whole(0, 0)], 0, "A", (1, 0, 0, 200))
        self.asked(calls + [drop(0)], 0, "A", (1, 0, 0, 200))
        self.asked(calls + [back(0)], 0, "A", (1, 0, -5, 0))

    def test_refusals(self):
        for side in (-FAR, -1, 2, FAR):
            self.assertEqual(ask(why(side, "A"), say(0, 6, "A"), why(side, "A"), say(1, 5, "A"), why(side, "A")),
                             [[-1], [0], [-1], [1], [-1]])
        for side in (0, 1):
            for name in ("", "a", "0", "ABCDEFG", "ABCDEFGH", "A B", [256], [-1], [65, FAR]):
                self.assertEqual(last(say(1, 5, "A"), why(side, name)), [-1])
            self.assertEqual(ask(why(side, "A"), say(1, 5, "A"), why(side, "B"), say(0, 6, "A"), why(side, "A"),
                                 why(side, "B"), why(side, "b")), [[-3], [0], [-3], [1], [-7], [-3], [-1]])

    def test_no_greatest_age(self):
        self.assertEqual(ask(say(0, 5, "A"), say(1, 9, "B"), why(1, "A"), why(0, "A"), why(1, "B")),
                         [[0], [1], [-9], [1, 1, 0, -5, 0], [1, 0, 2, 9, 1]])
        self.assertEqual(ask(say(0, 6, "A"), say(1, 5, "B"), say(0, 6, "B"), why(1, "A"))[3:], [[-7]])


class Ring(unittest.TestCase):
    def asked(self, calls, *lines):
        self.assertEqual(last(*calls, RING), told_lines(*lines))

    def test_it_can_all_be_true(self):
        self.assertEqual(ask(RING, core(0, "5y(A)"), RING, say(1, 5, "A"), RING), [[0], [1], [0], [0], [0]])
        self.asked([say(3, 0, "A", "B"), say(2, 0, "A", "B"), say(2, 0, "B", "A")])

    def test_two_lines(self):
        self.asked([say(0, 6, "A"), say(1, 5, "A")], (0, 1, 5, 1), (1, 0, -6, 0))
        self.asked([say(1, -1, "A")], (0, 1, -1, 0), (1, 0, 0, 200))
        self.asked([say(2, 3, "A", "B"), say(3, 2, "A", "B")], (1, 2, -3, 0), (2, 1, 2, 1))
        self.asked([core(0, "(A)y(B)"), core(1, "(B)(A)")], (1, 2, 0, 101), (2, 1, -1, 100))

    def test_more_lines(self):
        self.asked([say(2, 1, "A", "B"), say(2, 1, "B", "C"), say(2, -1, "C", "A")],
                   (1, 2, -1, 0), (2, 3, -1, 1), (3, 1, 1, 2))
        self.asked([core(0, "3y(A)2y(B)"), say(1, 4, "B")],
                   (0, 2, 4, 0), (2, 1, -2, 100), (1, 3, -3, 100), (3, 0, 0, 200))

    def test_the_fewest_lines(self):
        # A ring of three lines from the present on is left for one of two lines between greater times.
        calls = [say(1, 5, "A"), say(2, 3, "A", "B"), say(0, 9, "B"), say(2, 3, "C", "D"), say(2, -2, "D", "C")]
        self.asked(calls, (3, 4, -3, 3), (4, 3, 2, 4))
        # Nor does a sum that's far less help the longer one.
        calls = [say(1, 5, "A"), say(2, 3, "A", "B"), say(0, 99, "B"), say(2, 3, "D", "C"), say(2, -2, "C", "D")]
        self.asked(calls, (3, 4, -3, 3), (4, 3, 2, 4))

    def test_the_least_beginning(self):
        calls = [say(3, 99, "A", "B"), say(2, 9, "C", "D"), say(2, -1, "D", "C"), say(2, 3, "B", "A"),
                 say(2, -2, "A", "B")]
        self.asked(calls, (1, 2, 2, 4), (2, 1, -3, 3))
        self.asked(calls + [aside(4)], (3, 4, -9, 1), (4, 3, 1, 2))

    def test_the_least_sum(self):
        calls = [say(0, 6, "A"), say(1, 5, "A"), say(0, 9, "B"), say(1, 5, "B")]
        self.asked(calls, (0, 2, 5, 3), (2, 0, -9, 2))
        calls = [say(2, 1, "A", "B"), say(2, 0, "B", "A"), say(2, 2, "A", "C"), say(2, 0, "C", "A")]
        self.asked(calls, (1, 3, -2, 2), (3, 1, 0, 3))

    def test_a_line_that_is_not_the_least_is_not_told(self):
        self.asked([say(0, 7, "A"), say(1, 5, "A"), say(0, 8, "A"), say(1, 4, "A")], (0, 1, 4, 3), (1, 0, -8, 2))

    def test_the_least_second_and_third_time(self):
        calls = [say(3, 99, "A", "B"), say(0, 6, "B"), say(1, 5, "B"), say(0, 9, "A"), say(1, 8, "A")]
        self.asked(calls, (0, 1, 8, 4), (1, 0, -9, 3))
        calls = [say(3, 99, "B", "C"), say(1, 5, "A"), say(2, 3, "A", "C"), say(0, 4, "C"), say(2, 2, "A", "B"),
                 say(0, 5, "B")]
        self.asked(calls, (0, 3, 5, 1), (3, 1, -2, 4), (1, 0, -5, 5))

    def test_the_least_source(self):
        calls = [core(0, "(A)5y(B)"), core(2, "(A)5y(B)"), say(3, 4, "A", "B"), say(3, 4, "B", "A")]
        self.asked(calls, (1, 2, 4, 0), (2, 1, -5, 100))
        self.asked(calls + [whole(0, 0), aside(0)], (1, 2, 4, 1), (2, 1, -5, 102))
        self.asked(calls + [say(2, 5, "B", "A")], (1, 2, 4, 0), (2, 1, -5, 2))

    def test_the_longest_ring(self):
        links = [say(2, 1, f"A{k}", f"A{k + 1}") for k in range(11)]
        self.asked(links + [say(1, 10, "A0")], (0, 1, 10, 11), *[(k, k + 1, -1, k - 1) for k in range(1, 12)],
                   (12, 0, 0, 200))
        self.asked(links + [say(1, 11, "A0")])

    def test_what_is_set_aside_or_dropped(self):
        calls = [core(0, "(A)y(B)"), core(1, "(A)(B)"), RING, whole(0, 0), RING, whole(0, 1), RING, drop(1), RING]
        found = told_lines((1, 2, 0, 101), (2, 1, -1, 100))
        self.assertEqual(ask(*calls), [[2], [2], found, [0], [0], [0], found, [0], [0]])
        calls = [say(0, 6, "A"), say(1, 5, "A"), aside(0), RING, back(0), RING]
        self.assertEqual(ask(*calls)[2:], [[0], [0], [0], told_lines((0, 1, 5, 1), (1, 0, -6, 0))])


class Check(unittest.TestCase):
    CALLS = [core(0, "2y(A)3y4?(B)"), say(0, 5, "A"), say(1, 9, "B"), say(3, 6, "A", "B")]

    def asked(self, numbers, *answer):
        self.assertEqual(last(*self.CALLS, check(numbers)), list(answer), numbers)

    def test_no_lines(self):
        self.asked([], 1, 0, 0, 0)
        self.assertEqual(ask(check([]), say(0, 6, "A"), say(1, 5, "A"), check([])),
                         [[1, 0, 0, 0], [0], [1], [1, 0, 0, 0]])

    def test_each_line_of_what_is_said(self):
        lines = [(1, 0, -5, 0), (0, 2, 9, 1), (1, 2, 6, 2), (2, 1, 6, 2), (3, 1, 2, 100), (1, 3, -2, 100),
                 (1, 2, 7, 100), (2, 1, -3, 100), (2, 4, 0, 100), (4, 2, 0, 100)]
        lines += [(time, 0, 0, 200) for time in range(1, 11)]
        for line in lines:
            self.asked(line, 1, line[0], line[1], line[2])

    def test_a_line_that_is_none(self):
        for line in [(1, 0, -4, 0), (1, 0, -5, 1), (2, 0, -5, 0), (1, 2, -5, 0), (0, 1, -5, 0), (0, 1, 5, 0),
                     (2, 0, 9, 1), (2, 4, 1, 100), (3, 1, 2, 101), (0, 0, 0, 200), (11, 0, 0, 200), (1, 0, 0, 201),
                     (1, 0, 1, 200), (-1, 0, 0, 200), (FAR, 0, 0, 200), (1, -FAR, -5, 0), (1, 0, FAR, 0),
                     (1, 0, -5, -FAR), (0, 0, 0, 0), (5, 6, 0, 101)]:
            self.asked(line, 0)
            self.asked((1, 0, -5, 0) + line, 0)
            self.asked(line + (0, 2, 9, 1), 0)

    def test_chains(self):
        self.asked((2, 1, -3, 100, 1, 0, -5, 0), 1, 2, 0, -8)
        self.asked((0, 2, 9, 1, 2, 1, -3, 100, 1, 3, -2, 100), 1, 0, 3, 4)
        self.asked((0, 2, 9, 1, 2, 0, 0, 200), 1, 0, 0, 9)
        self.asked((1, 2, 6, 2, 2, 1, 6, 2, 1, 2, 7, 100), 1, 1, 2, 19)

    def test_lines_that_are_no_chain(self):
        self.asked((1, 0, -5, 0, 2, 1, -3, 100), 0)
        self.asked((1, 0, -5, 0, 1, 0, -5, 0), 0)
        self.asked((2, 1, -3, 100, 1, 0, -5, 0, 1, 0, -5, 0), 0)
        self.asked((0, 2, 9, 1, 1, 0, -5, 0), 0)
        self.asked((1, 2, 6, 2, 3, 1, 2, 100), 0)

    def test_fifty_lines_and_more(self):
        there_and_back = [1, 2, 6, 2, 2, 1, -3, 100]
        self.asked(there_and_back * 25, 1, 1, 1, 75)
        self.asked(there_and_back * 25 + [1, 2, 6, 2], -1)
        self.asked([1, 2, 6, 2] + there_and_back * 24, 0)
        self.asked(there_and_back * 24 + [1, 2, 6, 2], 1, 1, 2, 78)
        self.asked(there_and_back * 26, -1)
        self.asked([0] * 200, 0)
        self.asked([0] * 204, -1)

    def test_what_is_not_fours(self):
        for how_many in (1, 2, 3, 5, 6, 7, 199, 201, 202, 203, 209, 210):
            self.asked([0] * how_many, -1)
        self.asked([1, 0, -5, 0, 1], -1)
        self.asked([1, 0, -5], -1)

    def test_what_is_set_aside_or_dropped(self):
        calls = [core(0, "3y(A)"), check([1, 2, -3, 100]), whole(0, 0), check([1, 2, -3, 100]), whole(0, 1),
                 check([1, 2, -3, 100]), drop(0), check([1, 2, -3, 100])]
        self.assertEqual(ask(*calls), [[1], [1, 1, 2, -3], [0], [0], [0], [1, 1, 2, -3], [0], [0]])
        calls = [say(0, 6, "A"), check([1, 0, -6, 0]), aside(0), check([1, 0, -6, 0]), check([1, 0, 0, 200]), back(0),
                 check([1, 0, -6, 0])]
        self.assertEqual(ask(*calls), [[0], [1, 1, 0, -6], [0], [0], [1, 1, 0, 0], [0], [1, 1, 0, -6]])

    def test_also_where_it_can_not_all_be_true(self):
        self.assertEqual(last(say(0, 6, "A"), say(1, 5, "A"), check([0, 1, 5, 1, 1, 0, -6, 0])), [1, 0, 0, -1])


NAMES = ("A", "B", "C", "D")


def some_said(choose):
    """A few small cores and things: the calls, and the times and lines as the document tells them."""
    calls = []
    marks_of = []
    things = []
    for c in range(choose.randrange(4)):
        marks = choose.sample(NAMES, choose.randrange(1, 4))
        items = [choose.choice([("y", 1, 1), ("2?", 0, 2), ("<1-3>", 1, 3), ("", 0, 0)]) for k in range(len(marks) + 1)]
        text = "".join(item[0] + f"({mark})" for item, mark in zip(items, marks)) + items[-1][0]
        calls.append(core(c, text))
        marks_of.append((marks, items))
    for k in range(choose.randrange(3, 8)):
        kind = choose.randrange(4)
        one, two = choose.sample(NAMES, 2)
        a = choose.randrange(0, 4) if kind != 2 else choose.randrange(-2, 3)
        calls.append(say(kind, a, one, two if kind > 1 else ""))
        things.append((kind, a, one, two))
    time = times_of(marks_of, things)
    return calls, time, lines_of(marks_of, things, time)


def times_of(cores, things):
    names = []
    for marks, items in cores:
        names += marks
    for kind, a, one, two in things:
        names += [one, two] if kind > 1 else [one]
    time = {}
    for name in names:
        time.setdefault(name, 1 + len(time))
    return time


def lines_of(cores, things, time):
    lines = []
    for k, (kind, a, one, two) in enumerate(things):
        lines += {
            0: lambda: [(time[one], 0, -a, k)],
            1: lambda: [(0, time[one], a, k)],
            2: lambda: [(time[one], time[two], -a, k)],
            3: lambda: [(time[one], time[two], a, k), (time[two], time[one], a, k)],
        }[kind]()
    for c, (marks, items) in enumerate(cores):
        ends = 1 + len(time) + 2 * c
        points = [ends] + [time[mark] for mark in marks] + [ends + 1]
        for upper, lower, item in zip(points, points[1:], items):
            lines += [(upper, lower, item[2], 100 + c), (lower, upper, -item[1], 100 + c)]
    return lines + [(other, 0, 0, 200) for other in range(1, 9 + len(time))]


def chains_between(lines, start, end):
    """All chains from start to end that come to no time twice (start and end may be the same)."""
    found = []
    going = [([line], {line[1]}) for line in lines if line[0] == start]
    while going:
        chain, been = going.pop()
        if chain[-1][1] == end:
            found.append(chain)
            continue
        if chain[-1][1] == start:
            continue
        for line in lines:
            if line[0] == chain[-1][1] and line[1] not in been:
                going.append((chain + [line], been | {line[1]}))
    return found


def total(chain):
    return sum(line[2] for line in chain)


def behind(chain):
    """What decides between chains of the same beginning, sum and length: their times, then their sources."""
    return [line[1] for line in chain], [line[3] for line in chain]


class AgainstAllChains(unittest.TestCase):
    def rings_of(self, lines):
        rings = []
        for start in sorted({line[0] for line in lines}):
            rings += [chain for chain in chains_between(lines, start, start) if total(chain) < 0]
        return rings

    def least(self, lines, start, end):
        chains = chains_between(lines, start, end)
        return min(chains, key=lambda chain: (total(chain), len(chain), behind(chain))) if chains else None

    def test_why_and_ring(self):
        choose = random.Random(11)
        seen = {"rings": 0, "whys": 0, "none": 0, "tied": 0}
        for case in range(250):
            calls, times, lines = some_said(choose)
            rings = self.rings_of(lines)
            possible, told = ask(*calls, POSSIBLE, RING)[-2:]
            self.assertEqual(possible, [0 if rings else 1], calls)
            if rings:
                due = min(rings, key=lambda ring: (len(ring), ring[0][0], total(ring), behind(ring)))
                self.assertEqual(told, told_lines(*due), calls)
                self.assertEqual(last(*calls, check(told[1:])), [1, due[0][0], due[0][0], total(due)])
                seen["rings"] += 1
                seen["tied"] += len([ring for ring in rings if len(ring) == len(due)]) > len(due)
                continue
            self.assertEqual(told, [0], calls)
            for name, time in times.items():
                seen["none"] += not self.why_is_right(calls, lines, name, time)
                seen["whys"] += 1
        self.assertGreater(min(seen.values()), 30, seen)

    def why_is_right(self, calls, lines, name, time):
        """Looks at both sides; True if the name has a greatest age."""
        bound, lower, upper = ask(*calls, bounds(name), why(0, name), why(1, name))[-3:]
        due = self.least(lines, time, 0)
        self.assertEqual(lower, told_lines(*due), (calls, name))
        self.assertEqual(total(due), -bound[1], (calls, name))
        self.assertEqual(last(*calls, check(lower[1:])), [1, time, 0, -bound[1]])
        due = self.least(lines, 0, time)
        if due is None:
            self.assertEqual((bound[2:], upper), ([0, 0], [-9]), (calls, name))
            return False
        self.assertEqual(upper, told_lines(*due), (calls, name))
        self.assertEqual(bound[2:], [1, total(due)], (calls, name))
        self.assertEqual(last(*calls, check(upper[1:])), [1, 0, time, bound[3]])
        return True


if __name__ == "__main__":
    unittest.main()
