"""What the calls 11 to 24 answer: what is found out from all that's said. They change nothing.

Each takes the record, the call's whole numbers and its rows, and gives back a list; a refusal is one number below 0.
"""

from layerages.ages import PRESENT, all_lines, greatest_above, greatest_ages, how_many_times, least_ages
from layerages.ages import lines_with_layer, lines_with_age
from layerages.chains import is_chain, least_chain, least_ring
from layerages.coretext import layers_count
from layerages.record import names_of
from layerages.refusals import NO_GREATEST_AGE, NO_REPAIR, NOT_POSSIBLE, NOT_THAT_AGE, NOT_THERE, OUT_OF_RANGE
from layerages.refusals import SET_ASIDE, TOO_FEW_LAYERS, can_be_true, core_refusal, has_thing, names_refusal
from layerages.repair import fewest_to_set_aside

MOST_SUPPOSED = 1000000
MOST_LAYER = 100000
MOST_CHECKED = 50


def time_of(record, row):
    """The number of the time of a name that's there."""
    return names_of(record.cores, record.things).index(tuple(row)) + 1


def told_bound(bound):
    """A bound as two numbers, also where there's none."""
    return [0, 0] if bound is None else [1, bound]


def told_ages(lines, how_many, time):
    """The least and the greatest age of the time, three numbers; only for what can all be true."""
    return [least_ages(lines, how_many)[time]] + told_bound(greatest_ages(lines, how_many)[time])


def greatest_difference(record, one, two):
    """How much older than time two time one can be, None where there's no bound."""
    return greatest_above(all_lines(record), how_many_times(record), two)[one]


def reply_possible(record, numbers, rows):
    return [1 if can_be_true(record) else 0]


def reply_bounds(record, numbers, rows):
    refusal = names_refusal(record, rows)
    if refusal < 0:
        return [refusal]
    return [0] + told_ages(all_lines(record), how_many_times(record), time_of(record, rows[0]))


def reply_apart(record, numbers, rows):
    refusal = names_refusal(record, rows)
    if refusal < 0:
        return [refusal]
    one = time_of(record, rows[0])
    two = time_of(record, rows[1])
    turned = greatest_difference(record, two, one)
    least = None if turned is None else -turned
    return [0] + told_bound(least) + told_bound(greatest_difference(record, one, two))


def reply_order(record, numbers, rows):
    refusal = names_refusal(record, rows)
    if refusal < 0:
        return [refusal]
    one = time_of(record, rows[0])
    two = time_of(record, rows[1])
    older = greatest_difference(record, one, two)
    younger = greatest_difference(record, two, one)
    same = (older is None or older >= 0) and (younger is None or younger >= 0)
    return [
        0,
        1 if older is None or older > 0 else 0,
        1 if same else 0,
        1 if younger is None or younger > 0 else 0,
    ]


def reply_suppose(record, numbers, rows):
    age = numbers[0]
    if age < 0 or age > MOST_SUPPOSED:
        return [OUT_OF_RANGE]
    refusal = names_refusal(record, rows)
    if refusal < 0:
        return [refusal]
    lines = lines_with_age(record, time_of(record, rows[0]), age)
    how_many = how_many_times(record)
    if least_ages(lines, how_many) is None:
        return [NOT_THAT_AGE]
    return [0] + told_ages(lines, how_many, time_of(record, rows[1]))


def layer_refusal(record, c, i):
    if i < 1 or i > MOST_LAYER:
        return OUT_OF_RANGE
    refusal = core_refusal(record, c)
    if refusal < 0:
        return refusal
    if layers_count(record.cores[c].parts) < i:
        return TOO_FEW_LAYERS
    if not record.cores[c].counted:
        return SET_ASIDE
    return 0 if can_be_true(record) else NOT_POSSIBLE


def reply_layer(record, numbers, rows):
    refusal = layer_refusal(record, numbers[0], numbers[1])
    if refusal < 0:
        return [refusal]
    lines = lines_with_layer(record, numbers[0], numbers[1])
    how_many = how_many_times(record)
    return [0] + told_ages(lines, how_many + 1, how_many)


def of_names(record, ages):
    """Those of the ages that are the names'."""
    return ages[1:1 + len(names_of(record.cores, record.things))]


def reply_youngest(record, numbers, rows):
    if not can_be_true(record):
        return [NOT_POSSIBLE]
    return [0] + of_names(record, least_ages(all_lines(record), how_many_times(record)))


def reply_oldest(record, numbers, rows):
    if not can_be_true(record):
        return [NOT_POSSIBLE]
    greatest = of_names(record, greatest_ages(all_lines(record), how_many_times(record)))
    if None in greatest:
        return [NO_GREATEST_AGE]
    return [0] + greatest


def told_chain(chain):
    told = [len(chain)]
    for line in chain:
        told.extend(line)
    return told


def reply_why(record, numbers, rows):
    side = numbers[0]
    if side < 0 or side > 1:
        return [OUT_OF_RANGE]
    refusal = names_refusal(record, rows)
    if refusal < 0:
        return [refusal]
    time = time_of(record, rows[0])
    lines = all_lines(record)
    how_many = how_many_times(record)
    if side == 0:
        return told_chain(least_chain(lines, how_many, time, PRESENT))
    if greatest_ages(lines, how_many)[time] is None:
        return [NO_GREATEST_AGE]
    return told_chain(least_chain(lines, how_many, PRESENT, time))


def reply_ring(record, numbers, rows):
    return told_chain(least_ring(all_lines(record), how_many_times(record)))


def reply_check(record, numbers, rows):
    row = rows[0]
    if len(row) % 4 != 0 or len(row) > 4 * MOST_CHECKED:
        return [OUT_OF_RANGE]
    given = [tuple(row[place:place + 4]) for place in range(0, len(row), 4)]
    if not is_chain(given, all_lines(record)):
        return [0]
    if not given:
        return [1, 0, 0, 0]
    return [1, given[0][0], given[-1][1], sum([line[2] for line in given])]


def is_kept_without(lines, how_many, k):
    """True if all ages that keep the lines of all but thing k keep its lines too."""
    rest = [line for line in lines if line[3] != k]
    for start, end, number, source in lines:
        if source == k:
            most = greatest_above(rest, how_many, start)[end]
            if most is None or most > number:
                return False
    return True


def reply_matters(record, numbers, rows):
    k = numbers[0]
    if not has_thing(record, k):
        return [NOT_THERE]
    if not record.things[k].on:
        return [SET_ASIDE]
    if not can_be_true(record):
        return [NOT_POSSIBLE]
    return [0 if is_kept_without(all_lines(record), how_many_times(record), k) else 1]


def reply_repair(record, numbers, rows):
    on = [k for k, thing in enumerate(record.things) if thing.on]
    chosen = fewest_to_set_aside(all_lines(record), how_many_times(record), on)
    if chosen is None:
        return [NO_REPAIR]
    return [len(chosen)] + list(chosen)


def reply_all(record, numbers, rows):
    if not can_be_true(record):
        return [NOT_POSSIBLE]
    least = of_names(record, least_ages(all_lines(record), how_many_times(record)))
    greatest = of_names(record, greatest_ages(all_lines(record), how_many_times(record)))
    told = [0]
    for k, age in enumerate(least):
        told.append(age)
        told.extend(told_bound(greatest[k]))
    return told


# For each call from 11 to 24, in order: how many whole numbers it has, how many rows, and what answers it.
FINDING_CALLS = (
    (0, 0, reply_possible),
    (0, 1, reply_bounds),
    (0, 2, reply_apart),
    (0, 2, reply_order),
    (1, 2, reply_suppose),
    (2, 0, reply_layer),
    (0, 0, reply_youngest),
    (0, 0, reply_oldest),
    (1, 1, reply_why),
    (0, 0, reply_ring),
    (0, 1, reply_check),
    (1, 0, reply_matters),
    (0, 0, reply_repair),
    (0, 0, reply_all),
)
