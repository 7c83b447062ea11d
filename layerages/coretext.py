"""A core's text: its items, the text as it's told, and the years it takes."""

from layerages.names import is_digit, is_name

LAYERS = 0
DOUBTFUL = 1
GAP = 2
MARK = 3

BLANK = 32
ROUND_LEFT = 40
ROUND_RIGHT = 41
HYPHEN = 45
ZERO = 48
ANGLE_LEFT = 60
ANGLE_RIGHT = 62
QUESTION = 63
LETTER_Y = 121

MOST_DIGITS = 4
MOST_MARKS = 12

# No name is empty, so that a mark with this one is none of the core's own.
CUT_NAME = ()


class Item:
    """One item: the years it takes at least and at most, a mark's name, and the place behind it in the text."""

    def __init__(self, kind, least, most, name, behind):
        self.kind = kind
        self.least = least
        self.most = most
        self.name = name
        self.behind = behind


def byte_at(text, place):
    """The byte at the place, or -1 behind the text's end."""
    return text[place] if place < len(text) else -1


def behind_blanks(text, place):
    while byte_at(text, place) == BLANK:
        place += 1
    return place


def behind_number(text, start):
    """The place behind the number that begins at start; start itself if none does."""
    end = start
    while is_digit(byte_at(text, end)):
        end += 1
    if end - start > MOST_DIGITS:
        return start
    if end - start > 1 and text[start] == ZERO:
        return start
    return end


def number_between(text, start, end):
    value = 0
    for digit in text[start:end]:
        value = value * 10 + digit - ZERO
    return value


def read_layers(text, start):
    end = behind_number(text, start)
    how_many = number_between(text, start, end) if end > start else 1
    sign = byte_at(text, end)
    if how_many == 0:
        return None
    if sign == LETTER_Y:
        return Item(LAYERS, how_many, how_many, (), end + 1)
    if sign == QUESTION:
        return Item(DOUBTFUL, 0, how_many, (), end + 1)
    return None


def read_gap(text, start):
    middle = behind_number(text, start + 1)
    if middle == start + 1 or byte_at(text, middle) != HYPHEN:
        return None
    end = behind_number(text, middle + 1)
    if end == middle + 1 or byte_at(text, end) != ANGLE_RIGHT:
        return None
    least = number_between(text, start + 1, middle)
    most = number_between(text, middle + 1, end)
    if least > most:
        return None
    return Item(GAP, least, most, (), end + 1)


def read_mark(text, start):
    end = start + 1
    while end < len(text) and text[end] != ROUND_RIGHT:
        end += 1
    name = tuple(text[start + 1:end])
    if end == len(text) or not is_name(name):
        return None
    return Item(MARK, 0, 0, name, end + 1)


def read_item(text, start):
    """The item that begins at start, or None if none does."""
    sign = byte_at(text, start)
    if sign == ANGLE_LEFT:
        return read_gap(text, start)
    if sign == ROUND_LEFT:
        return read_mark(text, start)
    return read_layers(text, start)


def marks_of(parts):
    """The names of the marks among the items, from above."""
    return [item.name for item in parts if item.kind == MARK]


def may_follow(item, marks):
    """False for a mark that the core can't have behind the marks that it has."""
    if item.kind != MARK:
        return True
    return len(marks) < MOST_MARKS and item.name not in marks


def read_parts(text):
    """The text's items from its beginning on, as far as it's right."""
    parts = []
    marks = []
    item = read_item(text, behind_blanks(text, 0))
    while item is not None and may_follow(item, marks):
        parts.append(item)
        if item.kind == MARK:
            marks.append(item.name)
        item = read_item(text, behind_blanks(text, item.behind))
    return parts


def wrong_place(text, parts):
    """The place (from 1 on) of what's wrong behind the items that were read; 0 if the text is right."""
    place = behind_blanks(text, parts[-1].behind if parts else 0)
    return 0 if place == len(text) else place + 1


def digits_of(number):
    return [ord(sign) for sign in str(number)]


def told_item(item):
    if item.kind == MARK:
        return [ROUND_LEFT] + list(item.name) + [ROUND_RIGHT]
    if item.kind == GAP:
        return [ANGLE_LEFT] + digits_of(item.least) + [HYPHEN] + digits_of(item.most) + [ANGLE_RIGHT]
    sign = LETTER_Y if item.kind == LAYERS else QUESTION
    if item.most == 1:
        return [sign]
    return digits_of(item.most) + [sign]


def told_text(parts):
    """The bytes of the core's text as it's told."""
    text = []
    for item in parts:
        if text:
            text.append(BLANK)
        text.extend(told_item(item))
    return text


def stretches(parts):
    """For each stretch between neighbours among the ends and the marks: the least and the most years."""
    found = []
    least = 0
    most = 0
    for item in parts:
        least += item.least
        most += item.most
        if item.kind == MARK:
            found.append((least, most))
            least = 0
            most = 0
    found.append((least, most))
    return found


def layers_in(item):
    return item.most if item.kind == LAYERS or item.kind == DOUBTFUL else 0


def layers_count(parts):
    """How many layers the items have, doubtful ones counted too."""
    return sum([layers_in(item) for item in parts])


def some_layers(item, how_many):
    """An item of so many of the item's layers, perhaps of none."""
    return Item(item.kind, how_many if item.kind == LAYERS else 0, how_many, (), item.behind)


def cut_below_layer(parts, i):
    """The items with a mark of the name CUT_NAME at the lower end of the i-th layer."""
    cut = []
    left = i
    for item in parts:
        how_many = layers_in(item)
        if 0 < left <= how_many:
            cut.append(some_layers(item, left))
            cut.append(Item(MARK, 0, 0, CUT_NAME, item.behind))
            cut.append(some_layers(item, how_many - left))
        else:
            cut.append(item)
        left -= how_many
    return cut
