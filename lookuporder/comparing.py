"""What is told of two texts, and of a text's key."""

from lookuporder.levels import FROM_END
from lookuporder.levels import level_rows
from lookuporder.levels import text_key
from lookuporder.weighing import taken_strings

LESS_THAN = -1
SAME = 0
GREATER = 1

HASH_START = 14695981039346656037
HASH_FACTOR = 1099511628211
HASH_SIZE = 18446744073709551616


# No level has a 0, so that keys, with a 0 between two levels, compare as the levels one by one do.
def compare_texts(scale, way, first, second):
    first_key = text_key(scale, way, first)
    second_key = text_key(scale, way, second)
    if first_key < second_key:
        return LESS_THAN
    return GREATER if first_key > second_key else SAME


def text_hash(scale, way, text):
    mixed = HASH_START
    for number in text_key(scale, way, text):
        mixed = (mixed ^ number) * HASH_FACTOR % HASH_SIZE
    return mixed


# Second weights from the end would put what follows a beginning in front of it.
def begins_with(scale, way, first, second):
    forward = way - (way & FROM_END)
    for row, beginning in zip(level_rows(scale, forward, first), level_rows(scale, forward, second)):
        if row[:len(beginning)] != beginning:
            return False
    return True


# The two borders between which sought is found in the text, from start on; None if it isn't.
def find_text(scale, way, start, text, sought):
    sought_key = text_key(scale, way, sought)
    borders = borders_of(scale, text)
    for first in [border for border in borders if border >= start]:
        ends = [end for end in borders if end >= first and text_key(scale, way, text[first:end]) == sought_key]
        if len(ends) > 0:
            return (first, max(ends))
    return None


def borders_of(scale, text):
    borders = [0]
    for string in taken_strings(scale, text):
        borders.append(borders[len(borders) - 1] + len(string))
    return borders
