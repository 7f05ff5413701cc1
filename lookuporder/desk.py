"""The desk: calls on one order, handed in one behind another, and their answers."""

from lookuporder.characters import is_text
from lookuporder.comparing import begins_with
from lookuporder.comparing import compare_texts
from lookuporder.comparing import find_text
from lookuporder.comparing import text_hash
from lookuporder.following import follow_rules
from lookuporder.levels import is_way
from lookuporder.levels import text_key
from lookuporder.listing import is_list
from lookuporder.listing import label_of
from lookuporder.listing import rank_of
from lookuporder.listing import sorted_numbers
from lookuporder.listing import texts_of
from lookuporder.listing import wrong_number
from lookuporder.order import NO_PLACE
from lookuporder.order import Order
from lookuporder.reading import LONGEST_STRING
from lookuporder.weighing import text_items
from lookuporder.weights import Scale
from lookuporder.writing import written_order

DONE = 0
WRONG_FORM = -1
NONE_THERE = -2
NO_CHARACTER = -3


class Desk:
    def __init__(self):
        self.order = Order([])


def with_length(row):
    return [len(row)] + list(row)


# Of several refusals that of a wrong form is told first; DONE if there's none of these.
def refusal_of(is_formed, texts):
    if not is_formed:
        return WRONG_FORM
    if not all([is_text(text) for text in texts]):
        return NO_CHARACTER
    return DONE


def call_new(desk, numbers, rows):
    desk.order = Order([])
    return [DONE]


def call_rules(desk, numbers, rows):
    outcome = follow_rules(desk.order, rows[0])
    fault = outcome[1]
    if fault is not None:
        return list(fault)
    desk.order = outcome[0]
    return [DONE]


def call_write(desk, numbers, rows):
    return [DONE] + with_length(written_order(desk.order))


def call_count(desk, numbers, rows):
    return [DONE, len(desk.order.entries)]


def call_entry(desk, numbers, rows):
    if numbers[0] >= len(desk.order.entries):
        return [NONE_THERE]
    entry = desk.order.entries[numbers[0]]
    told = [DONE, entry.strength, 1 if entry.light else 0]
    return told + with_length(entry.string) + with_length(entry.counts_as)


def call_where(desk, numbers, rows):
    if not 1 <= len(rows[0]) <= LONGEST_STRING:
        return [WRONG_FORM]
    place = desk.order.place_of(tuple(rows[0]))
    if place == NO_PLACE:
        return [NONE_THERE]
    return [DONE, place]


def call_items(desk, numbers, rows):
    refused = refusal_of(True, rows)
    if refused != DONE:
        return [refused]
    told = []
    for item in text_items(Scale(desk.order), rows[0]):
        told.extend(item.weights)
        told.append(1 if item.light else 0)
    return [DONE] + with_length(told)


def call_key(desk, numbers, rows):
    refused = refusal_of(is_way(numbers[0]), rows)
    if refused != DONE:
        return [refused]
    return [DONE] + with_length(text_key(Scale(desk.order), numbers[0], rows[0]))


def call_compare(desk, numbers, rows):
    refused = refusal_of(is_way(numbers[0]), rows)
    if refused != DONE:
        return [refused]
    return [DONE, compare_texts(Scale(desk.order), numbers[0], rows[0], rows[1])]


def call_hash(desk, numbers, rows):
    refused = refusal_of(is_way(numbers[0]), rows)
    if refused != DONE:
        return [refused]
    return [DONE, text_hash(Scale(desk.order), numbers[0], rows[0])]


def call_begins(desk, numbers, rows):
    refused = refusal_of(is_way(numbers[0]), rows)
    if refused != DONE:
        return [refused]
    return [DONE, 1 if begins_with(Scale(desk.order), numbers[0], rows[0], rows[1]) else 0]


def call_find(desk, numbers, rows):
    refused = refusal_of(is_way(numbers[0]), rows)
    if refused != DONE:
        return [refused]
    borders = find_text(Scale(desk.order), numbers[0], numbers[1], rows[0], rows[1])
    if borders is None:
        return [NONE_THERE]
    return [DONE] + list(borders)


def call_sort(desk, numbers, rows):
    texts = texts_of(rows[0])
    refused = refusal_of(is_way(numbers[0]) and is_list(rows[0]), texts)
    if refused != DONE:
        return [refused]
    return [DONE] + with_length(sorted_numbers(Scale(desk.order), numbers[0], texts))


def call_rank(desk, numbers, rows):
    texts = texts_of(rows[0])
    upto = numbers[1]
    refused = refusal_of(is_way(numbers[0]) and upto <= 1 and is_list(rows[0]), texts + [rows[1]])
    if refused != DONE:
        return [refused]
    return [DONE, rank_of(Scale(desk.order), numbers[0], texts, rows[1], upto == 1)]


def call_label(desk, numbers, rows):
    texts = texts_of(rows[0])
    refused = refusal_of(is_way(numbers[0]) and is_list(rows[0]), texts + [rows[1]])
    if refused != DONE:
        return [refused]
    label = label_of(Scale(desk.order), numbers[0], texts, rows[1])
    return [NONE_THERE] if label is None else [DONE, label]


def call_wrong(desk, numbers, rows):
    texts = texts_of(rows[0])
    refused = refusal_of(is_way(numbers[0]) and is_list(rows[0]), texts)
    if refused != DONE:
        return [refused]
    wrong = wrong_number(Scale(desk.order), numbers[0], texts)
    return [NONE_THERE] if wrong is None else [DONE, wrong]


# Of each call: how many whole numbers and how many rows it has, and what answers it.
CALLS = {
    1: (0, 0, call_new),
    2: (0, 1, call_rules),
    3: (0, 0, call_write),
    4: (0, 0, call_count),
    5: (1, 0, call_entry),
    6: (0, 1, call_where),
    7: (0, 1, call_items),
    8: (1, 1, call_key),
    9: (1, 2, call_compare),
    10: (1, 1, call_hash),
    11: (1, 2, call_begins),
    12: (2, 2, call_find),
    13: (1, 1, call_sort),
    14: (2, 2, call_rank),
    15: (1, 2, call_label),
    16: (1, 1, call_wrong),
}


def answers(calls):
    desk = Desk()
    given = []
    place = 0
    while place < len(calls):
        call = CALLS[calls[place]]
        rows_place = place + 1 + call[0]
        numbers = calls[place + 1:rows_place]
        rows = rows_from(calls, rows_place, call[1])
        place = rows_place + sum([len(row) + 1 for row in rows])
        given.extend(with_length(call[2](desk, numbers, rows)))
    return given


def rows_from(calls, place, how_many):
    rows = []
    while len(rows) < how_many:
        rows.append(calls[place + 1:place + 1 + calls[place]])
        place += 1 + calls[place]
    return rows
