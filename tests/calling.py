"""Makes calls for layerages.desk.answers and takes its answers apart."""

from layerages.desk import answers

FAR = 1000000000000000000
CLEAR = [0]
TIMES = [10]
POSSIBLE = [11]
YOUNGEST = [17]
OLDEST = [18]
RING = [20]
REPAIR = [23]
ALL = [24]


def numbers_of(text):
    """The bytes of a text; a list of numbers stays as it is."""
    return [ord(sign) for sign in text] if isinstance(text, str) else list(text)


def row(text):
    return [len(numbers_of(text))] + numbers_of(text)


def core(c, text):
    return [1, c] + row(text)


def drop(c):
    return [2, c]


def print_core(c):
    return [3, c]


def parts(c):
    return [4, c]


def say(kind, a, one, two=""):
    return [5, kind, a] + row(one) + row(two)


def aside(k):
    return [6, k]


def back(k):
    return [7, k]


def whole(c, on):
    return [8, c, on]


def said(k):
    return [9, k]


def bounds(name):
    return [12] + row(name)


def apart(one, two):
    return [13] + row(one) + row(two)


def order(one, two):
    return [14] + row(one) + row(two)


def suppose(a, one, two):
    return [15, a] + row(one) + row(two)


def layer(c, i):
    return [16, c, i]


def why(side, name):
    return [19, side] + row(name)


def check(numbers):
    return [21] + row(numbers)


def matters(k):
    return [22, k]


def told_times(*names):
    """What times answers where these are the names."""
    told = [9 + len(names)]
    for name in names:
        told += row(name)
    return told


def ask(*calls):
    """The answers, one list for each call."""
    asked = []
    for call in calls:
        asked += call
    told = answers(asked)
    found = []
    place = 0
    while place < len(told):
        end = place + 1 + told[place]
        found.append(told[place + 1:end])
        place = end
    if place != len(told) or len(found) != len(calls):
        raise AssertionError(f"{len(calls)} calls, but the answers are {told!r}")
    return found


def last(*calls):
    """The answer to the last call."""
    return ask(*calls)[-1]


def told_lines(*lines):
    """What why and ring answer where these are the chain's lines."""
    told = [len(lines)]
    for line in lines:
        told += line
    return told


def state(cores=4, things=13):
    """Calls that show all that's kept: a refusal must leave their answers as they were."""
    calls = [TIMES, POSSIBLE]
    for c in range(cores):
        calls += [print_core(c), parts(c)]
    for k in range(things):
        calls.append(said(k))
    return calls
