"""An order written as the rules that make it of none."""

from lookuporder.characters import BLANK
from lookuporder.characters import EQUAL
from lookuporder.characters import LESS
from lookuporder.characters import LINE_FEED
from lookuporder.characters import QUOTE
from lookuporder.characters import SLASH
from lookuporder.characters import TILDE
from lookuporder.characters import ends_string


def written_order(order):
    row = []
    for entry in order.entries:
        row.extend(written_entry(entry))
    return row


def written_entry(entry):
    row = [EQUAL] if entry.strength == 4 else [LESS] * entry.strength
    row.append(BLANK)
    if entry.light:
        row.extend([TILDE, BLANK])
    row.extend(written_string(entry.string))
    if len(entry.counts_as) > 0:
        row.extend([BLANK, SLASH, BLANK])
        row.extend(written_string(entry.counts_as))
    row.append(LINE_FEED)
    return row


def written_string(string):
    if not any([number == QUOTE or ends_string(number) for number in string]):
        return list(string)
    row = [QUOTE]
    for number in string:
        row.extend([QUOTE, QUOTE] if number == QUOTE else [number])
    row.append(QUOTE)
    return row
