"""A text's items."""

from lookuporder.characters import ZERO
from lookuporder.characters import is_digit

NO_DIGIT = -1


class Item:
    # digit is that of which alone the item is taken, else NO_DIGIT.
    def __init__(self, weights, light, digit):
        self.weights = weights
        self.light = light
        self.digit = digit


def text_items(scale, text):
    found = []
    for string in taken_strings(scale, text):
        found.append(Item(scale.weigh(string), scale.is_light(string), digit_of(string)))
        for part in taken_strings(scale, scale.counted_as(string)):
            found.append(Item(scale.weigh(part), scale.is_light(part), NO_DIGIT))
    return found


def taken_strings(scale, text):
    strings = []
    place = 0
    while place < len(text):
        string = string_at(scale, text, place)
        strings.append(string)
        place += len(string)
    return strings


def string_at(scale, text, place):
    for size in (4, 3, 2):
        string = tuple(text[place:place + size])
        if scale.has_entry(string):
            return string
    return (text[place],)


def digit_of(string):
    if len(string) == 1 and is_digit(string[0]):
        return string[0] - ZERO
    return NO_DIGIT
