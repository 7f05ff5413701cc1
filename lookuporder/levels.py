"""What of a text is looked at, level by level, and its key."""

from lookuporder.characters import ZERO
from lookuporder.weighing import Item
from lookuporder.weighing import NO_DIGIT
from lookuporder.weighing import text_items

GREATEST_WAY = 31
LEVEL_BITS = 3
LIGHTLY = 4
FROM_END = 8
BY_VALUE = 16
NOT_LIGHT = 4294967295


def is_way(way):
    return way <= GREATEST_WAY


def text_key(scale, way, text):
    key = []
    for level, row in enumerate(level_rows(scale, way, text)):
        if level > 0:
            key.append(0)
        key.extend(row)
    return key


def level_rows(scale, way, text):
    zero = scale.weigh((ZERO,))[0] if way & BY_VALUE else 0
    found = [counted_item(item, zero != 0) for item in text_items(scale, text)]
    left_out = left_out_marks(found) if way & LIGHTLY else [False for item in found]
    rows = [first_row(found, left_out, zero)]
    for level in (1, 2):
        rows.append(weight_row(found, left_out, level))
    if way & FROM_END:
        rows[1].reverse()
    rows.append(light_row(found) if way & LIGHTLY else [number + 1 for number in text])
    return rows[:(way & LEVEL_BITS) + 1]


# Numbers by value don't count lightly; where none are told so, a digit is like any other item.
def counted_item(item, by_value):
    if item.digit == NO_DIGIT:
        return item
    if by_value:
        return Item(item.weights, False, item.digit)
    return Item(item.weights, item.light, NO_DIGIT)


# What has no first weight belongs to the item before it, and goes with that if it's light.
def left_out_marks(found):
    marks = []
    behind_light = False
    for item in found:
        if item.light:
            behind_light = True
        elif item.weights[0] != 0 or item.digit != NO_DIGIT:
            behind_light = False
        marks.append(behind_light)
    return marks


def first_row(found, left_out, zero):
    row = []
    place = 0
    while place < len(found):
        digits = digits_from(found, place)
        if len(digits) > 0:
            row.extend(told_number(digits, zero))
            place += len(digits)
            continue
        if found[place].weights[0] != 0 and not left_out[place]:
            row.append(found[place].weights[0])
        place += 1
    return row


def digits_from(found, place):
    digits = []
    while place < len(found) and found[place].digit != NO_DIGIT:
        digits.append(found[place].digit)
        place += 1
    return digits


def told_number(digits, zero):
    start = 0
    while start < len(digits) and digits[start] == 0:
        start += 1
    return [zero, len(digits) - start + 1] + [digit + 1 for digit in digits[start:]]


def weight_row(found, left_out, level):
    row = []
    for item, is_out in zip(found, left_out):
        if item.weights[level] != 0 and not is_out:
            row.append(item.weights[level])
    return row


def light_row(found):
    return [item.weights[0] if item.light else NOT_LIGHT for item in found if item.weights[0] != 0]
