"""All that's found out about the ages of three names, against a search through all small ages."""

import itertools
import random
import unittest

from calling import (ALL, OLDEST, POSSIBLE, REPAIR, YOUNGEST, apart, aside, ask, bounds, core, matters, order, say,
                     suppose, whole)

NAMES = "ABC"
PAIRS = tuple(itertools.product(NAMES, repeat=2))

# A line here has a number of at most 5, so with three names a greatest age or difference is at most 15; and where
# there's none, it comes within 10 of the limit.
LIMIT = 27
GREATEST = 15
SUPPOSED = range(6)


def some_said(choose):
    """A few small cores and things over the names: the calls, and what is counted of the cores and is on."""
    # Things that say nothing make all three names known, in their order.
    calls = [say(0, 0, name) for name in NAMES]
    cores = []
    things = {}
    for c in range(choose.randrange(3)):
        marks = choose.sample(NAMES, choose.randrange(1, 4))
        items = []
        for mark in marks:
            items.append(choose.choice([("y", 1, 1), ("2?", 0, 2), ("<1-3>", 1, 3), ("", 0, 0)]))
        calls.append(core(c, "".join(item[0] + f"({mark})" for item, mark in zip(items, marks)) + "4y"))
        if choose.randrange(5) == 0:
            calls.append(whole(c, 0))
        else:
            cores.append([(mark, item[1], item[2]) for item, mark in zip(items, marks)])
    for k in range(3, 3 + choose.randrange(6)):
        kind = choose.randrange(4)
        names = choose.sample(NAMES, 2)
        a = choose.randrange(0 if kind == 3 else -3, 6)
        calls.append(say(kind, a, names[0], names[1] if kind > 1 else ""))
        if choose.randrange(5) == 0:
            calls.append(aside(k))
        else:
            things[k] = (kind, a, names[0], names[1])
    return calls, cores, things


def core_holds(marks, ages):
    # Only the upper end's age is free here: some age from 0 on must lie above the first mark as the items say.
    if marks and ages[marks[0][0]] < marks[0][1]:
        return False
    for upper, lower in zip(marks, marks[1:]):
        if not lower[1] <= ages[lower[0]] - ages[upper[0]] <= lower[2]:
            return False
    return True


def thing_holds(thing, ages):
    kind, a, one, two = thing
    if kind == 0:
        return ages[one] >= a
    if kind == 1:
        return ages[one] <= a
    if kind == 2:
        return ages[one] >= ages[two] + a
    return abs(ages[one] - ages[two]) <= a


def names_in_order(calls):
    """The names as they're numbered: the cores' first."""
    told = ask(*calls, [10])[-1][1:]
    return [chr(told[place]) for place in range(1, len(told), 2)]


class AgainstAllAges(unittest.TestCase):
    def search(self, cores, things):
        """For each set of things that are against some ages which keep the cores: these ages."""
        found = {}
        for tried in itertools.product(range(LIMIT + 1), repeat=3):
            ages = dict(zip(NAMES, tried))
            if all(core_holds(marks, ages) for marks in cores):
                against = tuple(k for k, thing in things.items() if not thing_holds(thing, ages))
                found.setdefault(against, []).append(ages)
        return found

    def ages_due(self, found, name):
        greatest = max(ages[name] for ages in found)
        return [min(ages[name] for ages in found)] + ([0, 0] if greatest > GREATEST else [1, greatest])

    def apart_due(self, found, one, two):
        least = min(ages[one] - ages[two] for ages in found)
        greatest = max(ages[one] - ages[two] for ages in found)
        return [0] + ([0, 0] if least < -GREATEST else [1, least]) + ([0, 0] if greatest > GREATEST else [1, greatest])

    def order_due(self, found, one, two):
        return [
            0,
            int(any(ages[one] > ages[two] for ages in found)),
            int(any(ages[one] == ages[two] for ages in found)),
            int(any(ages[one] < ages[two] for ages in found)),
        ]

    def suppose_due(self, found, a, one, two):
        narrowed = [ages for ages in found if ages[one] == a]
        return [0] + self.ages_due(narrowed, two) if narrowed else [-8]

    def repair_due(self, found, things):
        for size in range(4):
            for chosen in itertools.combinations(sorted(things), size):
                if any(set(against) <= set(chosen) for against in found):
                    return [size] + list(chosen)
        return [-9]

    def look_at_ages(self, calls, found):
        told = ask(*calls, YOUNGEST, OLDEST, ALL, *[bounds(name) for name in NAMES])[len(calls):]
        names = names_in_order(calls)
        due = {name: self.ages_due(found, name) for name in names}
        self.assertEqual(told[0], [0] + [due[name][0] for name in names], calls)
        oldest = [0] + [due[name][2] for name in names]
        self.assertEqual(told[1], oldest if all(due[name][1] for name in names) else [-9], calls)
        self.assertEqual(told[2], [0] + sum([due[name] for name in names], []), calls)
        for name, answer in zip(NAMES, told[3:]):
            self.assertEqual(answer, [0] + due[name], (calls, name))

    def look_at_pairs(self, calls, found):
        asked = []
        due = []
        for one, two in PAIRS:
            asked += [apart(one, two), order(one, two)]
            due += [self.apart_due(found, one, two), self.order_due(found, one, two)]
            for a in SUPPOSED:
                asked.append(suppose(a, one, two))
                due.append(self.suppose_due(found, a, one, two))
        self.assertEqual(ask(*calls, *asked)[len(calls):], due, calls)

    def look_at_matters(self, calls, found, things):
        asked = [0, 1, 2] + list(things)
        told = ask(*calls, *[matters(k) for k in asked])[len(calls):]
        self.assertEqual(told, [[1 if (k,) in found else 0] for k in asked], calls)

    def test_all(self):
        choose = random.Random(7)
        seen = {"possible": 0, "not": 0, "matter": 0, 1: 0, 2: 0, 3: 0, -9: 0}
        for case in range(130):
            calls, cores, things = some_said(choose)
            found = self.search(cores, things)
            true = found.get((), [])
            possible, repair = ask(*calls, POSSIBLE, REPAIR)[-2:]
            self.assertEqual(possible, [1 if true else 0], calls)
            self.assertEqual(repair, self.repair_due(found, things), calls)
            if true:
                seen["possible"] += 1
                seen["matter"] += len([k for k in things if (k,) in found])
                self.look_at_ages(calls, true)
                self.look_at_pairs(calls, true)
                self.look_at_matters(calls, found, things)
            else:
                seen["not"] += 1
                seen[repair[0]] += 1
                told = ask(*calls, bounds("A"), apart("A", "B"), order("A", "B"), suppose(0, "A", "B"), YOUNGEST,
                           OLDEST, ALL, matters(0))[len(calls):]
                self.assertEqual(told, [[-7]] * 8, calls)
        self.assertGreater(min(seen.values()), 0, seen)
        self.assertGreater(min(seen["possible"], seen["not"], seen["matter"]), 30, seen)


if __name__ == "__main__":
    unittest.main()
