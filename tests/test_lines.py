"""The lines of what's said, with their times, numbers and sources."""

import unittest

from calling import numbers_of
from layerages.ages import all_lines
from layerages.coretext import read_parts
from layerages.record import Core, Record, Thing


def name(text):
    return tuple(numbers_of(text))


def record_of(cores, things):
    record = Record()
    for c, text in cores.items():
        record.cores[c] = Core(read_parts(numbers_of(text)))
    for kind, years, one, two in things:
        record.things.append(Thing(kind, years, name(one), name(two)))
    return record


class Lines(unittest.TestCase):
    def check(self, record, names, lines):
        """These lines, and one to the present from each other time."""
        due = lines + [(time, 0, 0, 200) for time in range(1, 9 + names)]
        self.assertEqual(sorted(all_lines(record)), sorted(due))

    def test_nothing_said(self):
        self.check(record_of({}, []), 0, [])

    def test_each_kind_of_thing(self):
        things = [(0, 5, "A", ""), (1, 9, "B", ""), (2, 3, "B", "C"), (2, -3, "A", "C"), (3, 4, "C", "A")]
        self.check(record_of({}, things), 3,
                   [(1, 0, -5, 0), (0, 2, 9, 1), (2, 3, -3, 2), (1, 3, 3, 3), (3, 1, 4, 4), (1, 3, 4, 4)])

    def test_cores(self):
        self.check(record_of({0: "2y(A)3?(B)<1-4>", 3: "5y"}, []), 2,
                   [(3, 1, 2, 100), (1, 3, -2, 100), (1, 2, 3, 100), (2, 1, 0, 100), (2, 4, 4, 100), (4, 2, -1, 100),
                    (9, 10, 5, 103), (10, 9, -5, 103)])

    def test_a_mark_of_two_cores_is_one_time(self):
        self.check(record_of({1: "y(A)", 2: "?(A)"}, []), 1,
                   [(4, 1, 1, 101), (1, 4, -1, 101), (1, 5, 0, 101), (5, 1, 0, 101), (6, 1, 1, 102), (1, 6, 0, 102),
                    (1, 7, 0, 102), (7, 1, 0, 102)])

    def test_what_is_set_aside_has_none(self):
        record = record_of({0: "2y(A)"}, [(0, 5, "A", ""), (1, 7, "B", "")])
        record.cores[0].counted = False
        record.things[0].on = False
        self.check(record, 2, [(0, 2, 7, 1)])


if __name__ == "__main__":
    unittest.main()
