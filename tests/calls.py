"""How the tests write calls and read their answers."""

from lookuporder.desk import answers


def row(value):
    return [ord(sign) for sign in value] if isinstance(value, str) else list(value)


def with_length(value):
    return [len(row(value))] + row(value)


def new():
    return [1]


def rules(value):
    return [2] + with_length(value)


def write():
    return [3]


def count():
    return [4]


def entry(i):
    return [5, i]


def where(value):
    return [6] + with_length(value)


def items(value):
    return [7] + with_length(value)


def key(way, value):
    return [8, way] + with_length(value)


def compare(way, first, second):
    return [9, way] + with_length(first) + with_length(second)


def hashed(way, value):
    return [10, way] + with_length(value)


def begins(way, first, second):
    return [11, way] + with_length(first) + with_length(second)


def find(way, n, first, second):
    return [12, way, n] + with_length(first) + with_length(second)


def listed(texts):
    """The row that a list of texts is handed in as."""
    return [number for text in texts for number in with_length(text)]


def sort(way, texts):
    return [13, way] + with_length(listed(texts))


def rank(way, upto, texts, text):
    return [14, way, upto] + with_length(listed(texts)) + with_length(text)


def label(way, texts, text):
    return [15, way] + with_length(listed(texts)) + with_length(text)


def wrong(way, texts):
    return [16, way] + with_length(listed(texts))


def split(answered):
    """The answers to each call by itself."""
    parts = []
    place = 0
    while place < len(answered):
        size = answered[place]
        parts.append(answered[place + 1:place + 1 + size])
        place += 1 + size
    if sum(len(part) + 1 for part in parts) != len(answered):
        raise ValueError("the last answer is shorter than it says")
    return parts


def ask(*calls):
    """What is answered to each of the calls, handed in as one list."""
    handed = [number for call in calls for number in call]
    parts = split(answers(handed))
    if len(parts) != len(calls):
        raise ValueError("not one answer to each call")
    return parts


def last(*calls):
    """What is answered to the last of the calls; the others must not be refused."""
    parts = ask(*calls)
    for part in parts[:-1]:
        if part[0] != 0:
            raise ValueError(f"refused: {part}")
    return parts[-1]


def written(*told):
    """The order that these rules make, one after another, as it is written."""
    answer = last(*[rules(value) for value in told], write())
    return "".join(chr(number) for number in answer[2:])


def fault(told, *before):
    """What is answered to the rules told, behind those before."""
    return last(*[rules(value) for value in before], rules(told))


def item_row(text, *told):
    """The items of the text, four numbers each, by the order that these rules make."""
    answer = last(*[rules(value) for value in told], items(text))
    flat = answer[2:]
    return [tuple(flat[i:i + 4]) for i in range(0, len(flat), 4)]


def key_row(way, text, *told):
    """The key of the text by the order that these rules make."""
    return last(*[rules(value) for value in told], key(way, text))[2:]


def told_of(call, *told):
    """What is answered to the call behind 0, by the order that these rules make."""
    answer = last(*[rules(value) for value in told], call)
    if answer[0] != 0:
        raise ValueError(f"refused: {answer}")
    return answer[1:]


def in_order(way, texts, *told):
    """The texts, sorted by the order that these rules make."""
    return [texts[number] for number in told_of(sort(way, texts), *told)[1:]]
