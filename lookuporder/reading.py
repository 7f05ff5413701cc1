"""Rules read as steps, as far as they are rules."""

from lookuporder.characters import AND
from lookuporder.characters import EQUAL
from lookuporder.characters import LESS
from lookuporder.characters import QUOTE
from lookuporder.characters import SLASH
from lookuporder.characters import TILDE
from lookuporder.characters import ends_string
from lookuporder.characters import is_blank
from lookuporder.characters import is_character

LONGEST_STRING = 4
# The strength of a step that only names the entry to stand behind.
ANCHOR = 0
NO_NUMBER = -1


class Step:
    # last_place is that of the last character of the step's last string, where its faults are told.
    def __init__(self, strength, light, string, counts_as, last_place):
        self.strength = strength
        self.light = light
        self.string = string
        self.counts_as = counts_as
        self.last_place = last_place


# What reads a part gives None where it finds no such part; the reader then stands at the fault's place.
class Reader:
    def __init__(self, row):
        self.row = row
        self.place = 0

    def at_end(self):
        return self.place >= len(self.row)

    def ahead(self, steps):
        if self.place + steps >= len(self.row):
            return NO_NUMBER
        return self.row[self.place + steps]

    def take(self, number):
        if self.ahead(0) != number:
            return False
        self.place += 1
        return True

    def pass_blanks(self):
        while is_blank(self.ahead(0)):
            self.place += 1


# The steps, and the place from which on the row is no rules, None if all of it is.
def read_rules(row):
    reader = Reader(row)
    steps = []
    reader.pass_blanks()
    while not reader.at_end():
        step = read_step(reader)
        if step is None:
            return (steps, reader.place)
        steps.append(step)
        reader.pass_blanks()
    return (steps, None)


def read_step(reader):
    if reader.take(AND):
        return read_anchor(reader)
    strength = read_strength(reader)
    if strength is None:
        return None
    return read_rule(reader, strength)


def read_anchor(reader):
    reader.pass_blanks()
    string = read_string(reader)
    if string is None:
        return None
    return Step(ANCHOR, False, string, (), reader.place - 1)


def read_strength(reader):
    if reader.take(EQUAL):
        return 4
    strength = 0
    while strength < 3 and reader.take(LESS):
        strength += 1
    return None if strength == 0 else strength


def read_rule(reader, strength):
    reader.pass_blanks()
    light = reader.take(TILDE)
    reader.pass_blanks()
    string = read_string(reader)
    if string is None:
        return None
    last_place = reader.place - 1
    reader.pass_blanks()
    counts_as = ()
    if reader.take(SLASH):
        reader.pass_blanks()
        counts_as = read_string(reader)
        if counts_as is None:
            return None
        last_place = reader.place - 1
    return Step(strength, light, string, counts_as, last_place)


def read_string(reader):
    string = []
    quoted = False
    while not reader.at_end():
        if not quoted and ends_string(reader.ahead(0)):
            break
        if reader.ahead(0) == QUOTE and not (quoted and reader.ahead(1) == QUOTE):
            quoted = not quoted
            reader.place += 1
            continue
        # Of two quotes that are one the first might still end the string: the second is the character.
        if reader.ahead(0) == QUOTE:
            reader.place += 1
        if len(string) == LONGEST_STRING or not is_character(reader.ahead(0)):
            return None
        string.append(reader.ahead(0))
        reader.place += 1
    if quoted or len(string) == 0:
        return None
    return tuple(string)
