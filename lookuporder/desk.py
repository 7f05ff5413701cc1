"""The desk: calls on one order, handed in one behind another, and their answers."""

from lookuporder.characters import is_text
from lookuporder.following import follow_rules
from lookuporder.levels import is_way
from lookuporder.levels import text_key
from lookuporder.order import NO_PLACE
from lookuporder.order import Order
from lookuporder.reading import LONGEST_STRING
from lookuporder.weighing import text_items
from lookuporder.weights import Scale
from lookuporder.writing import written_order

DONE = 0
WRONG_FORM = -1
NONE_THERE = -2
NO_CHARACTER = -3


class Desk:
    def __init__(self):
        self.order = Order([])


def with_length(row):
    return [len(row)] + list(row)


def call_new(desk, numbers, rows):
    desk.order = Order([])
    return [DONE]


def call_rules(desk, numbers, rows):
    outcome = follow_rules(desk.order, rows[0])
    fault = outcome[1]
    if fault is not None:
        return list(fault)
    desk.order = outcome[0]
    return [DONE]


def call_write(desk, numbers, rows):
    return [DONE] + with_length(written_order(desk.order))


def call_count(desk, numbers, rows):
    return [DONE, len(desk.order.entries)]


def call_entry(desk, numbers, rows):
    if numbers[0] >= len(desk.order.entries):
        return [NONE_THERE]
    entry = desk.order.entries[numbers[0]]
    told = [DONE, entry.strength, 1 if entry.light else 0]
    return told + with_length(entry.string) + with_length(entry.counts_as)


def call_where(desk, numbers, rows):
    if not 1 <= len(rows[0]) <= LONGEST_STRING:
        return [WRONG_FORM]
    place = desk.order.place_of(tuple(rows[0]))
    if place == NO_PLACE:
        return [NONE_THERE]
    return [DONE, place]


def call_items(desk, numbers, rows):
    if not is_text(rows[0]):
        return [NO_CHARACTER]
    told = []
    for item in text_items(Scale(desk.order), rows[0]):
        told.extend(item.weights)
        told.append(1 if item.light else 0)
    return [DONE] + with_length(told)


def call_key(desk, numbers, rows):
    if not is_way(numbers[0]):
        return [WRONG_FORM]
    if not is_text(rows[0]):
        return [NO_CHARACTER]
    return [DONE] + with_length(text_key(Scale(desk.order), numbers[0], rows[0]))


# Of each call: how many whole numbers and how many rows it has, and what answers it.
CALLS = {
    1: (0, 0, call_new),
    2: (0, 1, call_rules),
    3: (0, 0, call_write),
    4: (0, 0, call_count),
    5: (1, 0, call_entry),
    6: (0, 1, call_where),
    7: (0, 1, call_items),
    8: (1, 1, call_key),
}


def answers(calls):
    desk = Desk()
    given = []
    place = 0
    while place < len(calls):
        call = CALLS[calls[place]]
        rows_place = place + 1 + call[0]
        numbers = calls[place + 1:rows_place]
        rows = rows_from(calls, rows_place, call[1])
        place = rows_place + sum([len(row) + 1 for row in rows])
        given.extend(with_length(call[2](desk, numbers, rows)))
    return given


def rows_from(calls, place, how_many):
    rows = []
    while len(rows) < how_many:
        rows.append(calls[place + 1:place + 1 + calls[place]])
        place += 1 + calls[place]
    return rows
