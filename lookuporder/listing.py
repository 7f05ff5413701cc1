"""Lists of texts: how they are handed in, and what is told of them."""

from lookuporder.levels import text_key


def is_list(row):
    place = 0
    while place < len(row):
        place += 1 + row[place]
    return place == len(row)


def texts_of(row):
    texts = []
    place = 0
    while place < len(row):
        end = place + 1 + row[place]
        texts.append(row[place + 1:end])
        place = end
    return texts


def keys_of(scale, way, texts):
    return [text_key(scale, way, text) for text in texts]


def sorted_numbers(scale, way, texts):
    keys = keys_of(scale, way, texts)
    return sorted(range(len(keys)), key=lambda number: keys[number])


def rank_of(scale, way, texts, text, with_equal):
    own = text_key(scale, way, text)
    keys = keys_of(scale, way, texts)
    if with_equal:
        return len([key for key in keys if key <= own])
    return len([key for key in keys if key < own])


# The number of the greatest text that isn't greater, of several equal ones the last; None if there's none.
def label_of(scale, way, texts, text):
    own = text_key(scale, way, text)
    label = None
    greatest = None
    for number, key in enumerate(keys_of(scale, way, texts)):
        if key <= own and (greatest is None or key >= greatest):
            label = number
            greatest = key
    return label


# The number of the first text that's less than the one right before it; None if there's none.
def wrong_number(scale, way, texts):
    keys = keys_of(scale, way, texts)
    for number in range(1, len(keys)):
        if keys[number] < keys[number - 1]:
            return number
    return None
