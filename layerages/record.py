"""What is said so far: the cores and the things said, and the names in them."""

from layerages.coretext import marks_of

MOST_CORES = 4


class Core:
    """A core: its text's items, and whether it's counted or set aside."""

    def __init__(self, parts):
        self.parts = parts
        self.counted = True


class Thing:
    """A thing said, with its names as tuples of bytes, and whether it's on or set aside."""

    def __init__(self, kind, years, one, two):
        self.kind = kind
        self.years = years
        self.one = one
        self.two = two
        self.on = True


class Record:
    """The cores (None where there's none) and the things said."""

    def __init__(self):
        self.cores = [None] * MOST_CORES
        self.things = []


def names_of(cores, things):
    """All names, each at the place where it comes first."""
    # A dict keeps a key where it first came, which is the order that's asked for.
    found = {}
    for core in cores:
        if core is not None:
            for name in marks_of(core.parts):
                found[name] = True
    for thing in things:
        found[thing.one] = True
        if thing.two:
            found[thing.two] = True
    return list(found)


def times_count(names):
    """How many times there are: the present, the names, and two ends for each core."""
    return 1 + len(names) + 2 * MOST_CORES
