"""Strings of rules: quotes, blanks, lengths."""

import unittest

from tests.calls import entry, fault, last, row, rules


def string_of(told):
    """The string of the one entry that the rules make."""
    answer = last(rules(told), entry(0))
    return "".join(chr(number) for number in answer[4:4 + answer[3]])


class StringTest(unittest.TestCase):
    def test_plain_strings_of_1_to_4(self):
        for string in ("a", "ab", "abc", "abcd"):
            self.assertEqual(string_of("< " + string), string)

    def test_document_examples(self):
        self.assertEqual(string_of("< ''''"), "'")
        self.assertEqual(string_of("< 'a b'c"), "a bc")
        self.assertEqual(string_of("< ''a"), "a")
        self.assertEqual(fault("< ''"), [-1, 4])

    def test_empty_quotes_before_what_ends_a_string(self):
        for ending in " \t\n&<=~/":
            self.assertEqual(fault("< ''" + ending + "a"), [-1, 4])

    def test_quotes_within_and_behind(self):
        self.assertEqual(string_of("< a' 'b"), "a b")
        self.assertEqual(string_of("< a''b"), "ab")
        self.assertEqual(string_of("< 'a''b'"), "a'b")
        self.assertEqual(string_of("< ''''''"), "''")
        self.assertEqual(string_of("< '''a'"), "'a")
        self.assertEqual(string_of("< abcd''"), "abcd")
        self.assertEqual(string_of("< 'abcd'"), "abcd")
        self.assertEqual(string_of("< ''''''''''"), "''''")

    def test_every_sign_between_quotes(self):
        for sign in "&<=~/ \t\n":
            self.assertEqual(string_of("< '" + sign + "'"), sign)
            self.assertEqual(string_of("< a'" + sign + "'b"), "a" + sign + "b")

    def test_blanks_end_a_string_outside_of_quotes(self):
        for blank in " \t\n":
            self.assertEqual(fault("< a" + blank + "b"), [-1, 4])

    def test_signs_end_a_string_outside_of_quotes(self):
        self.assertEqual(last(rules("<a<b"), entry(1)), [0, 1, 0, 1, 98, 0])
        self.assertEqual(last(rules("<a=b"), entry(1)), [0, 4, 0, 1, 98, 0])
        self.assertEqual(last(rules("<a/b"), entry(0)), [0, 1, 0, 1, 97, 1, 98])
        self.assertEqual(last(rules("<a&a<<b"), entry(1)), [0, 2, 0, 1, 98, 0])
        self.assertEqual(fault("<a~b"), [-1, 2])

    def test_fifth_character(self):
        self.assertEqual(fault("< abcde"), [-1, 6])
        self.assertEqual(fault("< 'abcde'"), [-1, 7])
        self.assertEqual(fault("< 'ab'cde"), [-1, 8])
        self.assertEqual(fault("< abcd'e'"), [-1, 7])
        self.assertEqual(fault("< a / abcde"), [-1, 10])
        self.assertEqual(fault("& abcde", "< a"), [-1, 6])

    def test_fifth_character_is_a_quote(self):
        self.assertEqual(fault("< 'abcd''"), [-1, 8])
        self.assertEqual(fault("< 'abcd'''"), [-1, 8])
        self.assertEqual(fault("< abcd'''"), [-1, 8])

    def test_open_quotes(self):
        for told in ("< '", "< 'a", "< '''", "< 'a''", "< a'", "< abcd'", "< 'abcd", "< a / 'b", "& 'a"):
            self.assertEqual(fault(told, "< z"), [-1, len(told)])

    def test_least_and_greatest_characters(self):
        for number in (0, 1, 55295, 57344, 65535, 1114111):
            told = row("< ") + [number]
            self.assertEqual(last(rules(told), entry(0)), [0, 1, 0, 1, number, 0])

    def test_numbers_that_are_no_characters(self):
        for number in (55296, 56000, 57343, 1114112, 4294967295):
            self.assertEqual(fault([number]), [-1, 0])
            self.assertEqual(fault(row("< ") + [number]), [-1, 2])
            self.assertEqual(fault(row("< a") + [number]), [-1, 3])
            self.assertEqual(fault(row("< 'a") + [number, 39]), [-1, 4])
            self.assertEqual(fault(row("< a / ") + [number]), [-1, 6])
            self.assertEqual(fault(row("< a ") + [number]), [-1, 4])
            self.assertEqual(fault(row("& ") + [number], "< a"), [-1, 2])


if __name__ == "__main__":
    unittest.main()
