"""Texts found in others."""

import unittest

from tests.calls import ask, find, last, rules, told_of

LIGHTLY = 4
FROM_END = 8
BY_VALUE = 16
NO_CHARACTERS = (55296, 57343, 1114112, 4294967295)

# Their weights: ' 0 3 1, - 1 1 1 (light), a 2 1 1, A 2 1 2, b 3 1 1, c 3 2 1.
LETTERS = "<< '''' < ~ '-' < a <<< A < b << c"


def found(way, n, first, second, *told):
    """The two borders, or None if it isn't found."""
    answer = last(*[rules(value) for value in told], find(way, n, first, second))
    return None if answer == [-2] else tuple(answer[1:])


class FindTest(unittest.TestCase):
    def test_form_of_the_answer(self):
        self.assertEqual(ask(find(0, 0, "xab", "ab"), find(0, 0, "xab", "c")), [[0, 1, 3], [-2]])

    def test_the_first_place(self):
        self.assertEqual(found(0, 0, "abcabc", "bc"), (1, 3))
        self.assertEqual(found(0, 0, "aaa", "aa"), (0, 2))
        self.assertEqual(found(0, 0, "ab", "ab"), (0, 2))
        self.assertIsNone(found(0, 0, "ab", "abc"))
        self.assertIsNone(found(0, 0, "", "a"))

    def test_from_n_on(self):
        self.assertEqual([found(0, n, "abab", "ab") for n in range(4)], [(0, 2), (2, 4), (2, 4), None])
        self.assertEqual([found(0, n, "xa", "a") for n in (0, 1, 2, 3)], [(1, 2), (1, 2), None, None])

    def test_n_at_and_behind_the_last_border(self):
        self.assertEqual([found(0, n, "ab", "") for n in (1, 2, 3, 4294967295)], [(1, 1), (2, 2), None, None])
        self.assertEqual([found(0, n, "", "") for n in (0, 1)], [(0, 0), None])
        self.assertEqual([found(0, n, "an", "", "= n < a") for n in (0, 1, 2)], [(0, 0), (1, 2), (2, 2)])

    def test_by_each_level(self):
        self.assertEqual([found(way, 0, "Aac", "ab", LETTERS) for way in range(3)], [(1, 3), None, None])
        self.assertEqual([found(way, 0, "Aac", "ac", LETTERS) for way in range(4)], [(1, 3)] * 4)
        self.assertEqual([found(way, 0, "Aac", "a", LETTERS) for way in range(4)], [(0, 1), (0, 1), (1, 2), (1, 2)])
        self.assertEqual([found(way, 0, "ba", "a", "< a = b") for way in range(4)], [(0, 1), (0, 1), (0, 1), (1, 2)])

    def test_the_last_end_is_told(self):
        self.assertEqual(found(0, 0, "ba''b", "a", LETTERS), (1, 4))
        self.assertEqual(found(1, 0, "ba''b", "a", LETTERS), (1, 2))
        self.assertEqual(found(1, 0, "ba''b", "a'", LETTERS), (1, 3))
        self.assertEqual(found(LIGHTLY, 0, "a---b", "a", LETTERS), (0, 4))
        self.assertEqual(found(2, 0, "xannna", "a", "= n < a"), (1, 5))

    def test_what_stands_before_it_comes_first(self):
        self.assertEqual(found(0, 0, "'a", "a", LETTERS), (0, 2))
        self.assertEqual(found(0, 1, "'a", "a", LETTERS), (1, 2))
        self.assertEqual(found(1, 0, "'a", "a", LETTERS), (1, 2))
        self.assertEqual(found(LIGHTLY, 0, "b--a-b", "a", LETTERS), (1, 5))

    def test_a_number_behind_it_is_more_than_nothing(self):
        self.assertEqual(found(BY_VALUE, 0, "a0", "a"), (0, 1))
        self.assertEqual(found(LIGHTLY + BY_VALUE, 0, "a-0-", "a", "< ~ '-' < 0"), (0, 2))

    def test_an_empty_text(self):
        self.assertEqual(found(0, 0, "ab", ""), (0, 0))
        self.assertEqual(found(3, 0, "", ""), (0, 0))
        self.assertEqual(found(0, 0, "''ab", "", LETTERS), (0, 2))
        self.assertEqual(found(0, 3, "''ab''", "", LETTERS), (3, 3))
        self.assertEqual(found(0, 4, "''ab''", "", LETTERS), (4, 6))
        self.assertEqual(found(1, 0, "''ab", "", LETTERS), (0, 0))

    def test_a_text_that_is_nothing(self):
        told = "= n < a"
        self.assertEqual(found(2, 0, "ana", "n", told), (0, 0))
        self.assertEqual(found(2, 1, "ana", "n", told), (1, 2))
        self.assertEqual(found(3, 0, "ana", "n", told), (1, 2))

    def test_borders_alone(self):
        told = "< c < h < ch"
        self.assertIsNone(found(0, 0, "ch", "c", told))
        self.assertIsNone(found(0, 0, "ch", "h", told))
        self.assertEqual(found(0, 0, "ch", "ch", told), (0, 2))
        self.assertEqual(found(0, 0, "chc", "c", told), (2, 3))
        self.assertEqual(found(0, 0, "chh", "h", told), (2, 3))

    def test_n_that_is_no_border(self):
        told = "< a < bcde"
        self.assertEqual(
            [found(0, n, "abcdea", "a", told) for n in range(7)], [(0, 1)] + [(5, 6)] * 5 + [None])
        self.assertEqual([found(0, n, "abcdea", "", told) for n in range(7)], [
            (0, 0), (1, 1), (5, 5), (5, 5), (5, 5), (5, 5), (6, 6)])
        self.assertEqual([found(0, n, "abcdea", "bcde", told) for n in range(3)], [(1, 5), (1, 5), None])

    def test_the_longest_string_is_taken_from_the_left(self):
        told = "< ab < bc"
        self.assertIsNone(found(0, 0, "abc", "bc", told))
        self.assertIsNone(found(0, 1, "abc", "bc", told))
        self.assertEqual(found(0, 0, "abcbc", "bc", told), (3, 5))

    def test_entries_that_count_as_something(self):
        told = "< a < e & a <<< q / e"
        self.assertEqual([found(way, 0, "eqe", "ae", told) for way in range(3)], [(1, 2), (1, 2), None])
        self.assertEqual([found(way, 0, "eae", "q", told) for way in range(3)], [(1, 3), (1, 3), None])
        self.assertEqual([found(way, 0, "eqe", "q", told) for way in range(4)], [(1, 2)] * 4)
        # What q counts as has no border of its own.
        self.assertEqual(found(0, 0, "qe", "e", told), (1, 2))
        self.assertIsNone(found(0, 0, "qa", "e", told))
        self.assertIsNone(found(0, 0, "q", "a", told))

    def test_second_weights_from_the_end(self):
        self.assertEqual(found(1 + FROM_END, 0, "xbcb", "cb", LETTERS), (2, 4))
        self.assertEqual(found(1 + FROM_END, 0, "bcb", "bc", LETTERS), (0, 2))
        self.assertEqual(found(1 + FROM_END, 0, "a'b", "a'", LETTERS), (0, 2))
        self.assertIsNone(found(1 + FROM_END, 0, "ab'", "a'b", LETTERS))

    def test_light_items(self):
        self.assertEqual([found(way, 0, "xa-b", "ab", LETTERS) for way in range(4)], [None] * 4)
        self.assertEqual(
            [found(way + LIGHTLY, 0, "xa-b", "ab", LETTERS) for way in range(4)], [(1, 4), (1, 4), (1, 4), None])

    def test_what_follows_a_light_item_is_a_text_of_its_own(self):
        # Within the whole text the accent goes with the light item; between borders it stands alone.
        self.assertEqual(found(1 + LIGHTLY, 0, "a-'", "'", LETTERS), (2, 3))
        self.assertEqual(found(1 + LIGHTLY, 0, "a-'", "a", LETTERS), (0, 3))
        self.assertIsNone(found(1 + LIGHTLY, 0, "a-'", "a'", LETTERS))

    def test_by_value(self):
        self.assertEqual(found(BY_VALUE, 0, "a0012", "12"), (1, 5))
        self.assertEqual(found(BY_VALUE, 2, "a0012", "12"), (2, 5))
        self.assertEqual(found(BY_VALUE, 0, "a0012", "1"), (1, 4))
        self.assertEqual(found(BY_VALUE, 0, "a000", "0"), (1, 4))
        self.assertEqual(found(0, 0, "a0012", "12"), (3, 5))

    def test_plain_texts_by_every_way(self):
        for way in range(32):
            self.assertEqual(found(way, 0, "xyzxy", "xy"), (0, 2))
            self.assertEqual(found(way, 1, "xyzxy", "xy"), (3, 5))
            self.assertIsNone(found(way, 4, "xyzxy", "xy"))

    def test_refusals(self):
        for number in NO_CHARACTERS:
            self.assertEqual(ask(find(0, 0, [number], "a"), find(0, 0, "a", [97, number])), [[-3], [-3]])
            self.assertEqual(ask(find(32, 0, [number], "a"), find(32, 0, "a", [number])), [[-1], [-1]])
            self.assertEqual(ask(find(0, 9, "a", [number]), find(0, 9, [number], "a")), [[-3], [-3]])
        self.assertEqual(ask(find(32, 0, "a", "a"), find(4294967295, 9, "a", "b")), [[-1], [-1]])
        self.assertEqual(ask(find(31, 0, "a", "a"), find(31, 4294967295, "a", "a")), [[0, 0, 1], [-2]])

    def test_texts_as_long_as_may_be_handed_in(self):
        self.assertEqual(told_of(find(31, 0, "a" * 24, "a" * 24)), [0, 24])
        self.assertEqual(told_of(find(31, 23, "a" * 24, "a")), [23, 24])
        self.assertEqual(told_of(find(31, 24, "a" * 24, "")), [24, 24])
        self.assertEqual(told_of(find(2, 0, "n" * 24, "n" * 24), "= n"), [0, 24])
        self.assertEqual(told_of(find(3, 0, "n" * 24, "n" * 23), "= n"), [0, 23])


if __name__ == "__main__":
    unittest.main()
