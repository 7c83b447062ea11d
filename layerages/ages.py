"""The lines of what's said, and the ages that keep them.

A line is (i, j, w, source): the age of time j is at most the age of time i + w.
"""

from layerages.coretext import marks_of, stretches
from layerages.record import names_of, times_count

PRESENT = 0
CORE_SOURCE = 100
PRESENT_SOURCE = 200


def thing_lines(thing, source, times):
    one = times[thing.one]
    if thing.kind == 0:
        return [(one, PRESENT, -thing.years, source)]
    if thing.kind == 1:
        return [(PRESENT, one, thing.years, source)]
    two = times[thing.two]
    if thing.kind == 2:
        return [(one, two, -thing.years, source)]
    return [(one, two, thing.years, source), (two, one, thing.years, source)]


def core_lines(core, c, times):
    upper_end = 1 + len(times) + 2 * c
    points = [upper_end] + [times[name] for name in marks_of(core.parts)] + [upper_end + 1]
    lines = []
    for k, stretch in enumerate(stretches(core.parts)):
        lines.append((points[k], points[k + 1], stretch[1], CORE_SOURCE + c))
        lines.append((points[k + 1], points[k], -stretch[0], CORE_SOURCE + c))
    return lines


def all_lines(record):
    """All lines of the things that are on, of the cores that are counted, and to the present."""
    names = names_of(record.cores, record.things)
    times = {}
    for k, name in enumerate(names):
        times[name] = k + 1
    lines = []
    for k, thing in enumerate(record.things):
        if thing.on:
            lines.extend(thing_lines(thing, k, times))
    for c, core in enumerate(record.cores):
        if core is not None and core.counted:
            lines.extend(core_lines(core, c, times))
    for time in range(1, times_count(names)):
        lines.append((time, PRESENT, 0, PRESENT_SOURCE))
    return lines


def least_ages(lines, how_many):
    """The least age of each of so many times, or None if it can't all be true."""
    ages = [0] * how_many
    # Where it can all be true, how_many - 1 rounds settle every age, so that the next one changes nothing.
    for turn in range(how_many):
        changed = False
        for start, end, number, source in lines:
            if ages[start] < ages[end] - number:
                ages[start] = ages[end] - number
                changed = True
        if not changed:
            return ages
    return None


def greatest_ages(lines, how_many):
    """The greatest age of each time, None where there's none; only for what can all be true."""
    ages = [None] * how_many
    ages[PRESENT] = 0
    for turn in range(how_many):
        for start, end, number, source in lines:
            if ages[start] is None:
                continue
            if ages[end] is None or ages[end] > ages[start] + number:
                ages[end] = ages[start] + number
    return ages
