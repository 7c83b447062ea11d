"""What the calls 0 to 10 do to the record and what they answer.

Each takes the record, the call's whole numbers and its rows, and gives back a list; a refusal is one number below 0.
"""

from layerages.coretext import marks_of, read_parts, stretches, told_text, wrong_place
from layerages.names import is_name
from layerages.record import Core, Record, Thing, names_of, times_count
from layerages.refusals import NOT_THERE, OUT_OF_RANGE, TOO_MANY_NAMES, TOO_MANY_THINGS, WRONG_TEXT
from layerages.refusals import core_refusal, has_thing, is_core_number

MOST_NAMES = 14
MOST_THINGS = 12
MOST_TEXT = 300
MOST_YEARS = 100000


def is_text(row):
    if len(row) > MOST_TEXT:
        return False
    for number in row:
        if number < 0 or number > 255:
            return False
    return True


def may_be_said(kind, years, one, two):
    """True if all that's handed to say is in its range."""
    if kind < 0 or kind > 3 or abs(years) > MOST_YEARS or not is_name(one):
        return False
    if kind < 2:
        return len(two) == 0
    if kind == 3 and years < 0:
        return False
    return is_name(two) and one != two


def reply_clear(record, numbers, rows):
    empty = Record()
    record.cores = empty.cores
    record.things = empty.things
    return [0]


def reply_core(record, numbers, rows):
    c = numbers[0]
    text = rows[0]
    if not is_core_number(c) or not is_text(text):
        return [OUT_OF_RANGE]
    parts = read_parts(text)
    wrong = wrong_place(text, parts)
    if wrong > 0:
        return [WRONG_TEXT - wrong]
    # The core that's there gives its names up, so they are counted in a copy with the new one in its place.
    cores = list(record.cores)
    cores[c] = Core(parts)
    if len(names_of(cores, record.things)) > MOST_NAMES:
        return [TOO_MANY_NAMES]
    record.cores = cores
    return [len(marks_of(parts))]


def reply_drop(record, numbers, rows):
    refusal = core_refusal(record, numbers[0])
    if refusal < 0:
        return [refusal]
    record.cores[numbers[0]] = None
    return [0]


def reply_print(record, numbers, rows):
    refusal = core_refusal(record, numbers[0])
    if refusal < 0:
        return [refusal]
    text = told_text(record.cores[numbers[0]].parts)
    return [len(text)] + text


def reply_parts(record, numbers, rows):
    refusal = core_refusal(record, numbers[0])
    if refusal < 0:
        return [refusal]
    years = []
    for stretch in stretches(record.cores[numbers[0]].parts):
        years.extend(stretch)
    return [len(years)] + years


def reply_say(record, numbers, rows):
    if not may_be_said(numbers[0], numbers[1], rows[0], rows[1]):
        return [OUT_OF_RANGE]
    if len(record.things) == MOST_THINGS:
        return [TOO_MANY_THINGS]
    things = record.things + [Thing(numbers[0], numbers[1], tuple(rows[0]), tuple(rows[1]))]
    if len(names_of(record.cores, things)) > MOST_NAMES:
        return [TOO_MANY_NAMES]
    record.things = things
    return [len(things) - 1]


def reply_aside(record, numbers, rows):
    if not has_thing(record, numbers[0]):
        return [NOT_THERE]
    record.things[numbers[0]].on = False
    return [0]


def reply_back(record, numbers, rows):
    if not has_thing(record, numbers[0]):
        return [NOT_THERE]
    record.things[numbers[0]].on = True
    return [0]


def reply_whole(record, numbers, rows):
    if numbers[1] < 0 or numbers[1] > 1:
        return [OUT_OF_RANGE]
    refusal = core_refusal(record, numbers[0])
    if refusal < 0:
        return [refusal]
    record.cores[numbers[0]].counted = numbers[1] == 1
    return [0]


def reply_said(record, numbers, rows):
    if not has_thing(record, numbers[0]):
        return [NOT_THERE]
    thing = record.things[numbers[0]]
    told = [thing.kind, thing.years, 1 if thing.on else 0]
    for name in (thing.one, thing.two):
        told.append(len(name))
        told.extend(name)
    return told


def reply_times(record, numbers, rows):
    names = names_of(record.cores, record.things)
    told = [times_count(names)]
    for name in names:
        told.append(len(name))
        told.extend(name)
    return told


# For each call from 0 to 10, by its number: how many whole numbers it has, how many rows, and what answers it.
RECORD_CALLS = (
    (0, 0, reply_clear),
    (1, 1, reply_core),
    (1, 0, reply_drop),
    (1, 0, reply_print),
    (1, 0, reply_parts),
    (2, 2, reply_say),
    (1, 0, reply_aside),
    (1, 0, reply_back),
    (2, 0, reply_whole),
    (1, 0, reply_said),
    (0, 0, reply_times),
)
