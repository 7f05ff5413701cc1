"""Where rows stop being rules, asked of every short row against another telling of the same grammar."""

import itertools
import re
import unittest

from lookuporder.reading import read_rules
from tests.calls import entry, fault, last, row, rules, written

BLANKS = "[ \t\n]*"
STRING = r"(?:'(?:[^']|'')*'(?!')|[^ \t\n&<=~/'])+"
RULES = re.compile(
    f"(?:{BLANKS}(?:&{BLANKS}{STRING}|(?:<{{1,3}}|=){BLANKS}~?{BLANKS}{STRING}(?:{BLANKS}/{BLANKS}{STRING})?))*{BLANKS}")
# Whatever begins rules becomes rules with one of these behind it.
COMPLETIONS = ("", "a", "'", "a'", "''")


def characters_of(string):
    return re.sub("'((?:[^']|'')*)'(?!')", lambda found: found.group(1).replace("''", "'"), string)


def are_rules(text):
    if not RULES.fullmatch(text):
        return False
    return all(1 <= len(characters_of(string)) <= 4 for string in re.findall(STRING, text))


def begin_rules(text):
    return any(are_rules(text + completion) for completion in COMPLETIONS)


def first_wrong(text, known):
    for place in range(len(text)):
        beginning = text[:place + 1]
        if beginning not in known:
            known[beginning] = begin_rules(beginning)
        if not known[beginning]:
            return place
    return None if are_rules(text) else len(text)


class GrammarTest(unittest.TestCase):
    def test_every_row_of_up_to_five_signs(self):
        known = {}
        for size in range(6):
            for signs in itertools.product("&<=~/' a", repeat=size):
                text = "".join(signs)
                self.assertEqual(read_rules(row(text))[1], first_wrong(text, known), repr(text))

    def test_strings_near_their_greatest_length(self):
        known = {}
        for start in ("<abc", "<'abc", "<a/abc", "<a/'abc", "&'abc'"):
            for signs in itertools.product("&/' a", repeat=4):
                text = start + "".join(signs)
                self.assertEqual(read_rules(row(text))[1], first_wrong(text, known), repr(text))

    def test_no_rules_at_all_and_blanks_alone(self):
        for told in ("", " ", "\t\n ", "\n"):
            self.assertEqual(written("< a", told), "< a\n")
            self.assertEqual(fault(told), [0])

    def test_other_white_space_is_no_blank(self):
        for number in (11, 12, 13, 160, 8232):
            self.assertEqual(fault([number] + row("< a")), [-1, 0])
            self.assertEqual(last(rules(row("< a") + [number]), entry(0)), [0, 1, 0, 2, 97, number, 0])

    def test_blanks_between_all_parts(self):
        told = "\t\n < \n~\t a\n\n/ \tb \n& \ta\n<<\tc\t"
        self.assertEqual(written(told), "< ~ a / b\n<< c\n")

    def test_no_blanks_between_parts(self):
        self.assertEqual(written("<~a/b&a<<c<<<d=e"), "< ~ a / b\n<< c\n<<< d\n= e\n")

    def test_each_strength(self):
        for told, strength in (("<", 1), ("<<", 2), ("<<<", 3), ("=", 4)):
            self.assertEqual(last(rules(told + " a"), entry(0)), [0, strength, 0, 1, 97, 0])

    def test_strengths_that_are_none(self):
        self.assertEqual(fault("<<<< a"), [-1, 3])
        self.assertEqual(fault("< < a"), [-1, 2])
        self.assertEqual(fault("<= a"), [-1, 1])
        self.assertEqual(fault("== a"), [-1, 1])
        self.assertEqual(fault("=< a"), [-1, 1])

    def test_parts_out_of_place(self):
        self.assertEqual(fault("a"), [-1, 0])
        self.assertEqual(fault("~ a"), [-1, 0])
        self.assertEqual(fault("/ a"), [-1, 0])
        self.assertEqual(fault("' a'"), [-1, 0])
        self.assertEqual(fault("< ~ ~ a"), [-1, 4])
        self.assertEqual(fault("< a ~"), [-1, 4])
        self.assertEqual(fault("< / a"), [-1, 2])
        self.assertEqual(fault("< a / ~ b"), [-1, 6])
        self.assertEqual(fault("< a / b / c"), [-1, 8])
        self.assertEqual(fault("& < a", "< a"), [-1, 2])
        self.assertEqual(fault("& & a", "< a"), [-1, 2])
        self.assertEqual(fault("& ~ a", "< a"), [-1, 2])
        self.assertEqual(fault("& a / b", "< a"), [-1, 4])
        self.assertEqual(fault("& a b", "< a"), [-1, 4])

    def test_rules_that_are_not_ended(self):
        for told in ("<", "<<", "<<< ", "=", "< ~", "< ~ ", "< a /", "< a / ", "&", "& ", "< b <", "< b &"):
            self.assertEqual(fault(told, "< z"), [-1, len(told)])


if __name__ == "__main__":
    unittest.main()
