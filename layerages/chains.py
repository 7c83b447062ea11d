"""Chains of lines: the least ones between two times, the rings, and whether lines are a chain."""


def least_lines(lines):
    """Of the lines between the same two times the least, by number, then source; all in order of their times."""
    least = {}
    for line in lines:
        pair = (line[0], line[1])
        if pair not in least or line < least[pair]:
            least[pair] = line
    return [least[pair] for pair in sorted(least)]


def one_line_more(lines, sums):
    """The least sums where one line is put before the chains that have these sums."""
    longer = [None] * len(sums)
    for start, end, number, source in lines:
        if sums[end] is None:
            continue
        if longer[start] is None or longer[start] > number + sums[end]:
            longer[start] = number + sums[end]
    return longer


def sums_to(lines, how_many, end, longest):
    """By how many lines, up to the longest: the least sum of such a chain from each time to end, None if none is."""
    sums = [None] * how_many
    sums[end] = 0
    table = [sums]
    while len(table) <= longest:
        table.append(one_line_more(lines, table[-1]))
    return table


def line_onward(lines, time, sums, due):
    """The first line from the time with which the sum that's due is reached."""
    for line in lines:
        if line[0] == time and sums[line[1]] is not None and line[2] + sums[line[1]] == due:
            return line
    return None


def chain_from(lines, table, start, length):
    """Of the chains of so many lines with the least sum the one whose second time is least, then the third, .."""
    chain = []
    time = start
    for left in range(length, 0, -1):
        # The lines are in order of their times, so the first one that fits goes to the least time.
        line = line_onward(lines, time, table[left - 1], table[left][time])
        chain.append(line)
        time = line[1]
    return chain


def least_chain(lines, how_many, start, end):
    """The chain from start to another time with the least sum, of the fewest lines; only if some chain is there."""
    least = least_lines(lines)
    # Without a ring below 0 no chain with a time twice is needed.
    table = sums_to(least, how_many, end, how_many - 1)
    sums = [row[start] for row in table]
    length = sums.index(min([found for found in sums if found is not None]))
    return chain_from(least, table, start, length)


def ring_length(table, time):
    """The fewest lines of a chain from the time to itself whose sum is below 0, 0 if the table has none."""
    for length, sums in enumerate(table):
        if sums[time] is not None and sums[time] < 0:
            return length
    return 0


def least_ring(lines, how_many):
    """The ring below 0 of the fewest lines, beginning at the least time; empty if it can all be true."""
    least = least_lines(lines)
    ring = []
    # A ring of the fewest lines has no time twice, so it has at most as many lines as there are times.
    longest = how_many
    for start in range(how_many):
        table = sums_to(least, how_many, start, longest)
        length = ring_length(table, start)
        if length > 0:
            ring = chain_from(least, table, start, length)
            longest = length - 1
    return ring


def is_chain(given, lines):
    """True if all that's given are lines of these, each beginning where the one before it ends."""
    for k, line in enumerate(given):
        if line not in lines:
            return False
        if k > 0 and given[k - 1][1] != line[0]:
            return False
    return True
