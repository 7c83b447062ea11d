"""What could be set aside so that the rest can all be true."""

from layerages.ages import least_ages

MOST_SET_ASIDE = 3


def with_one_more(sets, numbers):
    """The sets with one more number each; as they and the numbers are in order, so are these."""
    longer = []
    for chosen in sets:
        for number in numbers:
            if not chosen or number > chosen[-1]:
                longer.append(chosen + (number,))
    return longer


def rest_can_be_true(lines, how_many, chosen):
    rest = [line for line in lines if line[3] not in chosen]
    return least_ages(rest, how_many) is not None


def fewest_to_set_aside(lines, how_many, numbers):
    """The first of the smallest sets of the numbers (of things, in order) to set aside; None if there's none."""
    sets = [()]
    for size in range(MOST_SET_ASIDE + 1):
        if size > 0:
            sets = with_one_more(sets, numbers)
        for chosen in sets:
            if rest_can_be_true(lines, how_many, chosen):
                return chosen
    return None
