"""The desk: takes a list of calls and gives back the list of their answers."""

from layerages.findings import FINDING_CALLS
from layerages.record import Record
from layerages.replies import RECORD_CALLS


def call_by_number(number):
    """How many whole numbers the call has, how many rows, and what answers it."""
    if number < len(RECORD_CALLS):
        return RECORD_CALLS[number]
    return FINDING_CALLS[number - len(RECORD_CALLS)]


def read_rows(calls, place, how_many):
    """So many rows, each with how many numbers it has before it, from the place on."""
    rows = []
    while len(rows) < how_many:
        end = place + 1 + calls[place]
        rows.append(calls[place + 1:end])
        place = end
    return rows


def answers(calls):
    """The answers to the calls on one new object, each with how many numbers it has before it."""
    record = Record()
    told = []
    place = 0
    while place < len(calls):
        call = call_by_number(calls[place])
        rows_at = place + 1 + call[0]
        numbers = calls[place + 1:rows_at]
        rows = read_rows(calls, rows_at, call[1])
        reply = call[2]
        answer = reply(record, numbers, rows)
        told.append(len(answer))
        told.extend(answer)
        place = rows_at + sum([1 + len(row) for row in rows])
    return told
