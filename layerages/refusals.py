"""The refusals, each one number below 0, and what several calls look at before they answer."""

from layerages.ages import all_lines, how_many_times, least_ages
from layerages.names import is_name
from layerages.record import MOST_CORES, names_of

OUT_OF_RANGE = -1
UNKNOWN_NAME = -3
NOT_THERE = -4
TOO_MANY_NAMES = -5
TOO_MANY_THINGS = -6
NOT_POSSIBLE = -7
NOT_THAT_AGE = -8
NO_GREATEST_AGE = -9
TOO_FEW_LAYERS = -9
NO_REPAIR = -9
SET_ASIDE = -10
WRONG_TEXT = -100


def is_core_number(c):
    return 0 <= c < MOST_CORES


def core_refusal(record, c):
    """The refusal of a call that needs core c, 0 if there's none."""
    if not is_core_number(c):
        return OUT_OF_RANGE
    return NOT_THERE if record.cores[c] is None else 0


def has_thing(record, k):
    return 0 <= k < len(record.things)


def can_be_true(record):
    return least_ages(all_lines(record), how_many_times(record)) is not None


def names_refusal(record, rows):
    """The refusal of a call that needs the rows as names and that it can all be true, 0 if there's none."""
    for row in rows:
        if not is_name(row):
            return OUT_OF_RANGE
    names = names_of(record.cores, record.things)
    for row in rows:
        if tuple(row) not in names:
            return UNKNOWN_NAME
    return 0 if can_be_true(record) else NOT_POSSIBLE
