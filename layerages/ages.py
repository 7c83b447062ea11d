"""The lines of what's said, and the ages that keep them.

A line is (i, j, w, source): the age of time j is at most the age of time i + w.
"""

from layerages.coretext import CUT_NAME, cut_below_layer, marks_of, stretches
from layerages.record import names_of, times_count

PRESENT = 0
CORE_SOURCE = 100
PRESENT_SOURCE = 200
# Never told: the lines of what's only supposed are in no chain that's answered.
SUPPOSED_SOURCE = 300


def thing_lines(thing, source, times):
    one = times[thing.one]
    if thing.kind == 0:
        return [(one, PRESENT, -thing.years, source)]
    if thing.kind == 1:
        return [(PRESENT, one, thing.years, source)]
    two = times[thing.two]
    if thing.kind == 2:
        return [(one, two, -thing.years, source)]
    return [(one, two, thing.years, source), (two, one, thing.years, source)]


def core_points(core, c, times):
    """The times of the core's upper end, its marks and its lower end, from above."""
    upper_end = 1 + len(times) + 2 * c
    return [upper_end] + [times[name] for name in marks_of(core.parts)] + [upper_end + 1]


def stretch_lines(points, years, source):
    """The lines between neighbours among the points, with the least and the most years of each stretch."""
    lines = []
    for k, stretch in enumerate(years):
        lines.append((points[k], points[k + 1], stretch[1], source))
        lines.append((points[k + 1], points[k], -stretch[0], source))
    return lines


def time_numbers(names):
    """The number of each name's time."""
    times = {}
    for k, name in enumerate(names):
        times[name] = k + 1
    return times


def how_many_times(record):
    return times_count(names_of(record.cores, record.things))


def all_lines(record):
    """All lines of the things that are on, of the cores that are counted, and to the present."""
    times = time_numbers(names_of(record.cores, record.things))
    lines = []
    for k, thing in enumerate(record.things):
        if thing.on:
            lines.extend(thing_lines(thing, k, times))
    for c, core in enumerate(record.cores):
        if core is not None and core.counted:
            lines.extend(stretch_lines(core_points(core, c, times), stretches(core.parts), CORE_SOURCE + c))
    for time in range(1, how_many_times(record)):
        lines.append((time, PRESENT, 0, PRESENT_SOURCE))
    return lines


def lines_with_layer(record, c, i):
    """All lines, and those of one more time, behind all others: the lower end of the i-th layer of core c."""
    core = record.cores[c]
    points = core_points(core, c, time_numbers(names_of(record.cores, record.things)))
    parts = cut_below_layer(core.parts, i)
    above = marks_of(parts).index(CUT_NAME)
    around = [points[above], how_many_times(record), points[above + 1]]
    return all_lines(record) + stretch_lines(around, stretches(parts)[above:above + 2], CORE_SOURCE + c)


def lines_with_age(record, time, age):
    """All lines, and two more that make the time's age just so great."""
    return all_lines(record) + [(PRESENT, time, age, SUPPOSED_SOURCE), (time, PRESENT, -age, SUPPOSED_SOURCE)]


def least_ages(lines, how_many):
    """The least age of each of so many times, or None if it can't all be true."""
    ages = [0] * how_many
    # Where it can all be true, how_many - 1 rounds settle every age, so that the next one changes nothing.
    for turn in range(how_many):
        changed = False
        for start, end, number, source in lines:
            if ages[start] < ages[end] - number:
                ages[start] = ages[end] - number
                changed = True
        if not changed:
            return ages
    return None


def greatest_above(lines, how_many, time):
    """How much older than the time each can be, None where there's no bound; only for what can all be true."""
    above = [None] * how_many
    above[time] = 0
    for turn in range(how_many):
        for start, end, number, source in lines:
            if above[start] is None:
                continue
            if above[end] is None or above[end] > above[start] + number:
                above[end] = above[start] + number
    return above


def greatest_ages(lines, how_many):
    """The greatest age of each time, None where there's none; only for what can all be true."""
    return greatest_above(lines, how_many, PRESENT)
