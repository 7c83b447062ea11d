"""Names of marks: lists or tuples of bytes."""

LONGEST_NAME = 6


def is_letter(number):
    return 65 <= number <= 90


def is_digit(number):
    return 48 <= number <= 57


def is_name(row):
    """True if the row is 1 to 6 bytes, a letter first, then letters and digits."""
    if len(row) == 0 or len(row) > LONGEST_NAME or not is_letter(row[0]):
        return False
    for number in row:
        if not is_letter(number) and not is_digit(number):
            return False
    return True
