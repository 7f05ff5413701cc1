"""Weights and items."""

import unittest

from tests.calls import ask, item_row, items, last, row, rules


class WeightTest(unittest.TestCase):
    def test_document_example(self):
        told = "<<< z << x <<< y < a << b <<< c"
        self.assertEqual(item_row("zxyabc", told), [
            (0, 0, 3, 0), (0, 3, 1, 0), (0, 3, 2, 0), (1, 1, 1, 0), (1, 2, 1, 0), (1, 2, 2, 0)])

    def test_counting(self):
        told = "< a << b <<< c = d << e < f <<< g <<< h << i"
        self.assertEqual(item_row("abcdefghi", told), [
            (1, 1, 1, 0), (1, 2, 1, 0), (1, 2, 2, 0), (1, 2, 2, 0), (1, 3, 1, 0),
            (2, 1, 1, 0), (2, 1, 2, 0), (2, 1, 3, 0), (2, 2, 1, 0)])

    def test_nothing(self):
        self.assertEqual(item_row("ab", "= a = b"), [(0, 0, 0, 0), (0, 0, 0, 0)])
        self.assertEqual(item_row("ab", "= a < b"), [(0, 0, 0, 0), (1, 1, 1, 0)])

    def test_raised_by_at_least_1(self):
        self.assertEqual(item_row("ab", "<< a << b"), [(0, 2, 1, 0), (0, 3, 1, 0)])
        self.assertEqual(item_row("ab", "<<< a <<< b"), [(0, 0, 2, 0), (0, 0, 3, 0)])
        self.assertEqual(item_row("ab", "= a <<< b"), [(0, 0, 0, 0), (0, 0, 2, 0)])
        self.assertEqual(item_row("ab", "= a << b"), [(0, 0, 0, 0), (0, 2, 1, 0)])

    def test_second_raised_by_letters_alone(self):
        told = "<< p << q << r < a << b < c"
        self.assertEqual(item_row("pqra", told), [(0, 3, 1, 0), (0, 4, 1, 0), (0, 5, 1, 0), (1, 1, 1, 0)])

    def test_third_raised_by_accents_and_letters(self):
        self.assertEqual(item_row("f", "<<< f << p <<< q <<< r < a"), [(0, 0, 4, 0)])
        self.assertEqual(item_row("f", "<<< f << p < a <<< b <<< c"), [(0, 0, 4, 0)])
        self.assertEqual(item_row("fg", "<<< f <<< g <<< h < a"), [(0, 0, 2, 0), (0, 0, 3, 0)])

    def test_third_of_accents_alone_is_not_raised(self):
        self.assertEqual(item_row("pq", "<< p <<< q < a <<< b <<< c"), [(0, 2, 1, 0), (0, 2, 2, 0)])

    def test_weights_follow_the_order_as_it_is_changed(self):
        self.assertEqual(item_row("ab", "< a < b", "& b < a"), [(2, 1, 1, 0), (1, 1, 1, 0)])


class ItemTest(unittest.TestCase):
    def test_empty_text(self):
        self.assertEqual(ask(items("")), [[0, 0]])
        self.assertEqual(last(rules("< a"), items("")), [0, 0])

    def test_form_of_the_answer(self):
        self.assertEqual(last(rules("< a < ~ b"), items("ab")), [0, 8, 1, 1, 1, 0, 2, 1, 1, 1])

    def test_characters_at_which_no_entry_begins(self):
        self.assertEqual(item_row([0, 97, 1114111]), [(1, 1, 1, 0), (98, 1, 1, 0), (1114112, 1, 1, 0)])
        self.assertEqual(item_row("ax", "< a < b << c"), [(1, 1, 1, 0), (123, 1, 1, 0)])
        self.assertEqual(item_row("x", "= a << b"), [(121, 1, 1, 0)])

    def test_the_longest_string_is_taken(self):
        told = "< a < ab < abcd < bc < c"
        self.assertEqual(item_row("a", told), [(1, 1, 1, 0)])
        self.assertEqual(item_row("ab", told), [(2, 1, 1, 0)])
        self.assertEqual(item_row("abc", told), [(2, 1, 1, 0), (5, 1, 1, 0)])
        self.assertEqual(item_row("abcd", told), [(3, 1, 1, 0)])
        self.assertEqual(item_row("aabcda", told), [(1, 1, 1, 0), (3, 1, 1, 0), (1, 1, 1, 0)])
        self.assertEqual(item_row("bca", told), [(4, 1, 1, 0), (1, 1, 1, 0)])
        self.assertEqual(item_row("xyz", "< xyz < xy"), [(1, 1, 1, 0)])

    def test_the_longest_is_taken_wherever_it_stands_in_the_order(self):
        self.assertEqual(item_row("abab", "< ab < a < b"), [(1, 1, 1, 0), (1, 1, 1, 0)])
        self.assertEqual(item_row("ba", "< ab < a < b"), [(3, 1, 1, 0), (2, 1, 1, 0)])

    def test_the_beginning_of_a_string_is_not_an_entry(self):
        self.assertEqual(item_row("abc", "< abcd"), [(99, 1, 1, 0), (100, 1, 1, 0), (101, 1, 1, 0)])

    def test_light(self):
        self.assertEqual(item_row("a-b", "< ~ '-' < a < b"), [(2, 1, 1, 0), (1, 1, 1, 1), (3, 1, 1, 0)])
        self.assertEqual(item_row("-", "= ~ '-'"), [(0, 0, 0, 1)])

    def test_counts_as(self):
        told = "< a < b < e << ae / e"
        self.assertEqual(item_row("aeb", told), [(3, 2, 1, 0), (3, 1, 1, 0), (2, 1, 1, 0)])

    def test_counts_as_strings_and_characters_without_entries(self):
        told = "< c < ch < h < ~ q / chxh"
        self.assertEqual(item_row("q", told), [(4, 1, 1, 1), (2, 1, 1, 0), (125, 1, 1, 0), (3, 1, 1, 0)])

    def test_what_is_counted_as_may_be_light(self):
        self.assertEqual(item_row("b", "< ~ a < b / a"), [(2, 1, 1, 0), (1, 1, 1, 1)])

    def test_within_what_is_counted_as_it_is_not_looked_at(self):
        told = "< a / b < b / a < c / c"
        self.assertEqual(item_row("a", told), [(1, 1, 1, 0), (2, 1, 1, 0)])
        self.assertEqual(item_row("b", told), [(2, 1, 1, 0), (1, 1, 1, 0)])
        self.assertEqual(item_row("c", told), [(3, 1, 1, 0), (3, 1, 1, 0)])

    def test_what_is_counted_as_does_not_join_what_follows(self):
        told = "< a < b < ab < c / a"
        self.assertEqual(item_row("cb", told), [(4, 1, 1, 0), (1, 1, 1, 0), (2, 1, 1, 0)])

    def test_nothing_gives_an_item_too(self):
        self.assertEqual(item_row("xax", "= x / a < a"), [
            (0, 0, 0, 0), (1, 1, 1, 0), (1, 1, 1, 0), (0, 0, 0, 0), (1, 1, 1, 0)])

    def test_numbers_that_are_no_characters(self):
        for number in (55296, 57343, 1114112, 4294967295):
            self.assertEqual(ask(items([number])), [[-3]])
            self.assertEqual(ask(items([97, 98, number])), [[-3]])
        self.assertEqual(item_row([55295, 57344]), [(55296, 1, 1, 0), (57345, 1, 1, 0)])

    def test_a_text_as_long_as_may_be_handed_in(self):
        told = "< a / bbbb < b"
        self.assertEqual(item_row("a" * 24, told), ([(1, 1, 1, 0)] + [(2, 1, 1, 0)] * 4) * 24)
        self.assertEqual(item_row(row("a") * 23 + [1114111]), [(98, 1, 1, 0)] * 23 + [(1114112, 1, 1, 0)])


if __name__ == "__main__":
    unittest.main()
