"""Two texts compared, hashes, and texts that begin with others."""

import unittest

from tests.calls import ask, begins, compare, hashed, key_row, last, rules, told_of

LIGHTLY = 4
FROM_END = 8
BY_VALUE = 16
NO_CHARACTERS = (55296, 57343, 1114112, 4294967295)

# Their weights: ' 0 3 1, - 1 1 1 (light), a 2 1 1, A 2 1 2, b 3 1 1, c 3 2 1.
LETTERS = "<< '''' < ~ '-' < a <<< A < b << c"
FRENCH = "< c < e << E < o << O < t"


def compared(way, first, second, *told):
    """How the texts compare; it must be told the same from both sides."""
    one = told_of(compare(way, first, second), *told)[0]
    other = told_of(compare(way, second, first), *told)[0]
    if one != -other:
        raise ValueError(f"{one} from one side and {other} from the other")
    return one


class CompareTest(unittest.TestCase):
    def test_form_of_the_answer(self):
        self.assertEqual(
            ask(compare(0, "a", "b"), compare(0, "b", "a"), compare(0, "a", "a")), [[0, -1], [0, 1], [0, 0]])

    def test_first_number_that_differs(self):
        self.assertEqual(compared(0, "aab", "abA", LETTERS), -1)
        self.assertEqual(compared(0, "baa", "abb", LETTERS), 1)

    def test_a_text_before_a_longer_that_it_begins(self):
        self.assertEqual(compared(0, "ab", "aba", LETTERS), -1)
        self.assertEqual(compared(0, "", "a", LETTERS), -1)
        self.assertEqual(compared(3, "ab", "ab'", LETTERS), -1)

    def test_empty_texts(self):
        for way in range(32):
            self.assertEqual(compared(way, "", "", LETTERS), 0)
            self.assertEqual(compared(way, "", ""), 0)
            self.assertEqual(compared(way, "", "a"), -1)

    def test_texts_that_are_equal_at_lower_levels_alone(self):
        self.assertEqual([compared(way, "b", "c", LETTERS) for way in range(4)], [0, -1, -1, -1])
        self.assertEqual([compared(way, "a", "A", LETTERS) for way in range(4)], [0, 0, -1, -1])
        told = "< a = b"
        self.assertEqual([compared(way, "a", "b", told) for way in range(4)], [0, 0, 0, -1])

    def test_a_lower_level_comes_first_wherever_it_differs(self):
        self.assertEqual(compared(3, "ca", "ba", LETTERS), 1)
        self.assertEqual(compared(3, "ca", "bb", LETTERS), -1)
        self.assertEqual(compared(3, "ab", "Ab", LETTERS), -1)
        self.assertEqual(compared(3, "ac", "Ab", LETTERS), 1)

    def test_level_4_is_by_the_characters(self):
        told = "= z < b = a"
        self.assertEqual([compared(way, "b", "a", told) for way in range(4)], [0, 0, 0, 1])
        self.assertEqual([compared(way, "bz", "b", told) for way in range(4)], [0, 0, 0, 1])
        self.assertEqual([compared(way, "zb", "bz", told) for way in range(4)], [0, 0, 0, 1])

    def test_characters_without_entries_stand_behind_all_entries(self):
        self.assertEqual(compared(0, [0], "c", LETTERS), 1)
        self.assertEqual(compared(0, "x", "y", LETTERS), -1)
        self.assertEqual(compared(0, [1114110], [1114111], LETTERS), -1)
        self.assertEqual(compared(0, [55295], [57344]), -1)

    def test_second_weights_from_the_end(self):
        self.assertEqual(compared(1, "cOte", "cotE", FRENCH), 1)
        self.assertEqual(compared(1 + FROM_END, "cOte", "cotE", FRENCH), -1)
        self.assertEqual(compared(FROM_END, "cOte", "cotE", FRENCH), 0)
        self.assertEqual(compared(3 + FROM_END, "cote", "cOte", FRENCH), -1)

    def test_from_the_end_is_for_second_weights_alone(self):
        self.assertEqual(compared(2 + FROM_END, "aA", "Aa", LETTERS), -1)
        self.assertEqual(compared(2 + FROM_END, "ab", "ba", LETTERS), -1)

    def test_second_weights_from_the_end_of_texts_one_of_which_has_more(self):
        told = "<< p < a << b"
        self.assertEqual(compared(1, "ap", "a", told), 1)
        self.assertEqual(compared(1, "bpa", "bb", told), 1)
        self.assertEqual(compared(1 + FROM_END, "bpa", "bb", told), -1)

    def test_light_items(self):
        self.assertEqual([compared(way, "a-b", "ab", LETTERS) for way in range(4)], [-1] * 4)
        self.assertEqual([compared(way + LIGHTLY, "a-b", "ab", LETTERS) for way in range(4)], [0, 0, 0, -1])

    def test_what_follows_light_items(self):
        self.assertEqual([compared(way + LIGHTLY, "a-'b", "ab", LETTERS) for way in range(4)], [0, 0, 0, -1])
        self.assertEqual([compared(way + LIGHTLY, "a-'b", "a-b", LETTERS) for way in range(4)], [0, 0, 0, 0])
        self.assertEqual([compared(way + LIGHTLY, "a'-b", "a-b", LETTERS) for way in range(4)], [0, 1, 1, 1])
        self.assertEqual(compared(1, "a-'b", "a-b", LETTERS), 1)

    def test_by_value(self):
        pairs = (("9", "10"), ("a9", "a10"), ("007", "7"), ("0", "000"), ("0", "1"))
        self.assertEqual([compared(0, *pair) for pair in pairs], [1, 1, -1, -1, -1])
        self.assertEqual([compared(BY_VALUE, *pair) for pair in pairs], [-1, -1, 0, 0, -1])
        self.assertEqual(compared(BY_VALUE, "9" * 23, "1" + "0" * 23), -1)

    def test_numbers_of_one_value_differ_at_other_levels(self):
        self.assertEqual([compared(way + BY_VALUE, "07", "7") for way in range(4)], [0, 1, 1, 1])

    def test_strings_of_several_characters(self):
        told = "< c < d & c < ch"
        self.assertEqual([compared(0, *pair, told) for pair in (("ch", "cz"), ("ch", "d"), ("ch", "c"))], [1, -1, 1])

    def test_entries_that_count_as_something(self):
        told = "< a < e & a <<< q / e"
        self.assertEqual([compared(way, "q", "ae", told) for way in range(4)], [0, 0, 1, 1])

    def test_the_order_that_is_there_now_counts(self):
        pair = compare(0, "a", "b")
        self.assertEqual(ask(pair, rules("< b < a"), pair, rules("& a < b"), pair, rules("& a"), pair), [
            [0, -1], [0], [0, 1], [0], [0, -1], [0], [0, -1]])

    def test_ways_above_31(self):
        for way in (32, 63, 4294967295):
            self.assertEqual(ask(compare(way, "a", "b"), compare(way, "", "")), [[-1], [-1]])

    def test_numbers_that_are_no_characters(self):
        for number in NO_CHARACTERS:
            self.assertEqual(ask(compare(3, [97, number], "b"), compare(3, "b", [97, number])), [[-3], [-3]])
            self.assertEqual(ask(compare(32, [number], "b"), compare(32, "b", [number])), [[-1], [-1]])
            self.assertEqual(ask(compare(0, [number], [number])), [[-3]])

    def test_texts_as_long_as_may_be_handed_in(self):
        self.assertEqual(compared(31, "a" * 24, "a" * 23 + "b"), -1)
        self.assertEqual(compared(31, "a" * 24, "a" * 24), 0)
        self.assertEqual(compared(31, "a" * 24, "a" * 23), 1)


class HashTest(unittest.TestCase):
    def test_of_nothing(self):
        self.assertEqual(ask(hashed(0, "")), [[0, 14695981039346656037]])

    def test_of_one_number(self):
        # Without entries a character's first weight is its number and 1.
        self.assertEqual(ask(hashed(0, [96])), [[0, 0xaf63dc4c8601ec8c]])

    def test_of_several_numbers(self):
        self.assertEqual(ask(hashed(0, [ord(sign) - 1 for sign in "foobar"])), [[0, 0x85944171f73967e8]])

    def test_of_the_whole_key(self):
        for way in range(32):
            expected = 14695981039346656037
            for number in key_row(way, "c1-'ab10A", LETTERS):
                expected = ((expected ^ number) * 1099511628211) & 0xffffffffffffffff
            self.assertEqual(told_of(hashed(way, "c1-'ab10A"), LETTERS), [expected], way)

    def test_the_zeros_between_levels_count(self):
        self.assertEqual(ask(hashed(1, "")), [[0, 14695981039346656037 * 1099511628211 % 2 ** 64]])
        self.assertEqual(ask(hashed(3, "")), [[0, 14695981039346656037 * 1099511628211 ** 3 % 2 ** 64]])

    def test_numbers_beyond_a_byte(self):
        self.assertEqual(
            ask(hashed(0, [1114111])), [[0, (14695981039346656037 ^ 1114112) * 1099511628211 % 2 ** 64]])

    def test_equal_texts_have_one_hash(self):
        self.assertEqual(told_of(hashed(1, "a"), LETTERS), told_of(hashed(1, "A"), LETTERS))
        self.assertNotEqual(told_of(hashed(2, "a"), LETTERS), told_of(hashed(2, "A"), LETTERS))

    def test_refusals(self):
        for number in NO_CHARACTERS:
            self.assertEqual(ask(hashed(0, [97, number]), hashed(32, [97, number])), [[-3], [-1]])
        self.assertEqual(ask(hashed(31, "a"))[0][0], 0)
        self.assertEqual(ask(hashed(32, "a"), hashed(4294967295, "")), [[-1], [-1]])

    def test_a_text_as_long_as_may_be_handed_in(self):
        expected = 14695981039346656037
        for number in [1114112] * 24:
            expected = ((expected ^ number) * 1099511628211) % 2 ** 64
        self.assertEqual(ask(hashed(0, [1114111] * 24)), [[0, expected]])


def does_begin(way, first, second, *told):
    return told_of(begins(way, first, second), *told)[0]


class BeginsTest(unittest.TestCase):
    def test_form_of_the_answer(self):
        self.assertEqual(ask(begins(0, "ab", "a"), begins(0, "ab", "b")), [[0, 1], [0, 0]])

    def test_plain_beginnings(self):
        for way in range(32):
            self.assertEqual([does_begin(way, "xyz", text) for text in ("", "x", "xy", "xyz")], [1] * 4)
            self.assertEqual([does_begin(way, "xyz", text) for text in ("y", "xz", "xyzz", "yz")], [0] * 4)

    def test_an_empty_second_text(self):
        for way in range(32):
            self.assertEqual(does_begin(way, "", "", LETTERS), 1)
            self.assertEqual(does_begin(way, "c'-1", "", LETTERS), 1)
            self.assertEqual(does_begin(way, "", "a", LETTERS), 0)

    def test_each_level_must_begin_so(self):
        self.assertEqual([does_begin(way, "Aab", "aa", LETTERS) for way in range(4)], [1, 1, 0, 0])
        self.assertEqual([does_begin(way, "cab", "ba", LETTERS) for way in range(4)], [1, 0, 0, 0])
        told = "< a = b < c"
        self.assertEqual([does_begin(way, "bac", "ab", told) for way in range(4)], [1, 1, 1, 0])

    def test_an_accent_behind_what_it_begins_with(self):
        self.assertEqual([does_begin(way, "a'b", "a", LETTERS) for way in range(4)], [1, 1, 1, 1])
        self.assertEqual([does_begin(way, "a'b", "ab", LETTERS) for way in range(4)], [1, 0, 0, 0])
        self.assertEqual([does_begin(way, "ab", "a'", LETTERS) for way in range(4)], [1, 0, 0, 0])

    def test_bit_3_counts_as_0(self):
        self.assertEqual([does_begin(way + FROM_END, "abc", "ab", LETTERS) for way in range(4)], [1] * 4)
        self.assertEqual([does_begin(way + FROM_END, "cab", "ba", LETTERS) for way in range(4)], [1, 0, 0, 0])
        # Taken from the end these second weights, 3 1 1 and 3 1, would begin so.
        self.assertEqual(does_begin(1 + FROM_END, "ab'", "a'", LETTERS), 0)

    def test_by_every_way_as_without_bit_3(self):
        for way in range(32):
            for second in ("c", "c1", "c1-", "c1-'a", "c1a", "b", "-"):
                self.assertEqual(
                    does_begin(way, "c1-'ab10A", second, LETTERS),
                    does_begin(way & 23, "c1-'ab10A", second, LETTERS), (way, second))

    def test_light_items(self):
        self.assertEqual([does_begin(way, "a-b", "ab", LETTERS) for way in range(4)], [0] * 4)
        self.assertEqual([does_begin(way + LIGHTLY, "a-b", "ab", LETTERS) for way in range(4)], [1, 1, 1, 0])
        self.assertEqual([does_begin(way + LIGHTLY, "a-b", "a", LETTERS) for way in range(4)], [1] * 4)

    def test_by_value(self):
        self.assertEqual(does_begin(0, "10", "1"), 1)
        self.assertEqual(does_begin(BY_VALUE, "10", "1"), 0)
        self.assertEqual(does_begin(BY_VALUE, "10a", "010"), 1)
        self.assertEqual(does_begin(BY_VALUE, "10", "0"), 0)

    def test_strings_of_several_characters(self):
        told = "< c < ch"
        self.assertEqual(does_begin(0, "ch", "c", told), 0)
        self.assertEqual(does_begin(3, "ch", "c", told), 0)
        self.assertEqual(does_begin(0, "cz", "c", told), 1)

    def test_entries_that_count_as_something(self):
        told = "< a < e & a <<< q / e"
        self.assertEqual([does_begin(way, "qa", "ae", told) for way in range(3)], [1, 1, 0])
        self.assertEqual([does_begin(way, "qa", "a", told) for way in range(3)], [1, 1, 0])

    def test_refusals(self):
        for number in NO_CHARACTERS:
            self.assertEqual(ask(begins(0, [number], "a"), begins(0, "a", [97, number])), [[-3], [-3]])
            self.assertEqual(ask(begins(32, [number], "a"), begins(32, "a", [number])), [[-1], [-1]])
        self.assertEqual(
            ask(begins(32, "a", "a"), begins(4294967295, "", ""), begins(31, "", "")), [[-1], [-1], [0, 1]])

    def test_texts_as_long_as_may_be_handed_in(self):
        self.assertEqual(does_begin(31, "a" * 24, "a" * 24), 1)
        self.assertEqual(does_begin(31, "a" * 24, "a" * 23), 1)
        self.assertEqual(does_begin(31, "a" * 23, "a" * 24), 0)

    def test_the_order_lasts(self):
        self.assertEqual(last(rules("< b < a"), begins(3, "ab", "a"), compare(0, "a", "b")), [0, 1])


if __name__ == "__main__":
    unittest.main()
