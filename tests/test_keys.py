"""Keys: ways and levels."""

import unittest

from tests.calls import ask, fault, key, key_row, last, row, rules

HEAVY = 4294967295
LIGHTLY = 4
FROM_END = 8
BY_VALUE = 16

# Their weights: ' 0 3 1, - 1 1 1 (light), a 2 1 1, A 2 1 2, b 3 1 1, c 3 2 1.
LETTERS = "<< '''' < ~ '-' < a <<< A < b << c"


class LevelTest(unittest.TestCase):
    def test_each_level(self):
        self.assertEqual(key_row(0, "aAbc", LETTERS), [2, 2, 3, 3])
        self.assertEqual(key_row(1, "aAbc", LETTERS), [2, 2, 3, 3, 0, 1, 1, 1, 2])
        self.assertEqual(key_row(2, "aAbc", LETTERS), [2, 2, 3, 3, 0, 1, 1, 1, 2, 0, 1, 2, 1, 1])
        self.assertEqual(key_row(3, "aAbc", LETTERS), [
            2, 2, 3, 3, 0, 1, 1, 1, 2, 0, 1, 2, 1, 1, 0, 98, 66, 99, 100])

    def test_form_of_the_answer(self):
        self.assertEqual(last(rules("< a"), key(1, "aa")), [0, 5, 1, 1, 0, 1, 1])

    def test_weights_of_0_are_not_there(self):
        told = "= n <<< f << p < a"
        self.assertEqual(key_row(3, "nfpa", told), [1, 0, 2, 1, 0, 2, 1, 1, 0, 111, 103, 113, 98])
        self.assertEqual(key_row(2, "n", told), [0, 0])

    def test_characters_without_entries(self):
        self.assertEqual(key_row(3, [0, 1114111]), [1, 1114112, 0, 1, 1, 0, 1, 1, 0, 1, 1114112])

    def test_what_is_counted_as_is_at_each_level_but_the_last(self):
        told = "< a < e << q / e"
        self.assertEqual(key_row(3, "aq", told), [1, 2, 2, 0, 1, 2, 1, 0, 1, 1, 1, 0, 98, 114])
        self.assertEqual(key_row(3 + LIGHTLY, "aq", told), [1, 2, 2, 0, 1, 2, 1, 0, 1, 1, 1, 0, HEAVY, HEAVY, HEAVY])

    def test_empty_text(self):
        for way in range(32):
            self.assertEqual(last(rules(LETTERS), key(way, "")), [0, way % 4] + [0] * (way % 4))

    def test_second_weights_from_the_end(self):
        self.assertEqual(key_row(FROM_END, "abc", LETTERS), [2, 3, 3])
        self.assertEqual(key_row(1 + FROM_END, "ac'A", LETTERS), [2, 3, 2, 0, 1, 3, 2, 1])
        self.assertEqual(key_row(2 + FROM_END, "Aac", LETTERS), [2, 2, 3, 0, 2, 1, 1, 0, 2, 1, 1])
        self.assertEqual(key_row(3 + FROM_END, "Aac", LETTERS), [2, 2, 3, 0, 2, 1, 1, 0, 2, 1, 1, 0, 66, 98, 100])


class LightTest(unittest.TestCase):
    def test_light_items_count_without_the_bit(self):
        self.assertEqual(key_row(2, "a-b", LETTERS), [2, 1, 3, 0, 1, 1, 1, 0, 1, 1, 1])

    def test_light_items_are_left_out(self):
        self.assertEqual(key_row(2 + LIGHTLY, "a-b", LETTERS), [2, 3, 0, 1, 1, 0, 1, 1])
        self.assertEqual(key_row(3 + LIGHTLY, "a-b", LETTERS), [2, 3, 0, 1, 1, 0, 1, 1, 0, HEAVY, 1, HEAVY])

    def test_what_follows_a_light_item_goes_with_it(self):
        self.assertEqual(key_row(2 + LIGHTLY, "a-'b", LETTERS), [2, 3, 0, 1, 1, 0, 1, 1])
        self.assertEqual(key_row(2 + LIGHTLY, "a-''b'", LETTERS), [2, 3, 0, 1, 1, 3, 0, 1, 1, 1])
        self.assertEqual(key_row(2 + LIGHTLY, "a'-b", LETTERS), [2, 3, 0, 1, 3, 1, 0, 1, 1, 1])
        self.assertEqual(key_row(3 + LIGHTLY, "-'", LETTERS), [0, 0, 0, 1])

    def test_forms_alone_go_with_a_light_item_too(self):
        told = "<<< f < ~ '-' < a"
        self.assertEqual(key_row(2 + LIGHTLY, "f-fafa", told), [2, 2, 0, 1, 1, 0, 2, 1, 2, 1])

    def test_light_items_without_a_first_weight(self):
        told = "= ~ n << ~ p << q < a"
        self.assertEqual(key_row(2, "npqa", told), [1, 0, 2, 3, 1, 0, 1, 1, 1])
        self.assertEqual(key_row(3 + LIGHTLY, "anqapqa", told), [
            1, 1, 1, 0, 1, 1, 1, 0, 1, 1, 1, 0, HEAVY, HEAVY, HEAVY])

    def test_level_4_has_first_weights_alone(self):
        self.assertEqual(key_row(3 + LIGHTLY, "'a-'x", LETTERS), [
            2, 124, 0, 3, 1, 1, 0, 1, 1, 1, 0, HEAVY, 1, HEAVY])

    def test_light_within_what_is_counted_as(self):
        told = "< ~ l << m < a / lb < b"
        self.assertEqual(key_row(3 + LIGHTLY, "a", told), [2, 3, 0, 1, 1, 0, 1, 1, 0, HEAVY, 1, HEAVY])

    def test_what_a_light_item_counts_as(self):
        told = "<< p < ~ l / pb < b"
        self.assertEqual(key_row(3 + LIGHTLY, "l", told), [2, 0, 1, 0, 1, 0, 1, HEAVY])

    def test_lightly_and_from_the_end(self):
        self.assertEqual(key_row(1 + LIGHTLY + FROM_END, "a-'c", LETTERS), [2, 3, 0, 2, 1])


class NumberTest(unittest.TestCase):
    DIGITS = "< 0 < 1 < 2 < 3 < 4 < 5 < 6 < 7 < 8 < 9 < a"

    def test_digits_are_letters_without_the_bit(self):
        self.assertEqual(key_row(0, "a10", self.DIGITS), [11, 2, 1])

    def test_by_value(self):
        self.assertEqual(key_row(BY_VALUE, "a10", self.DIGITS), [11, 1, 3, 2, 1])
        self.assertEqual(key_row(BY_VALUE, "1234567890", self.DIGITS), [1, 11, 2, 3, 4, 5, 6, 7, 8, 9, 10, 1])

    def test_without_entries(self):
        self.assertEqual(key_row(BY_VALUE, "10"), [49, 3, 2, 1])
        self.assertEqual(key_row(BY_VALUE, "/9:"), [48, 49, 2, 10, 59])
        self.assertEqual(key_row(BY_VALUE, "7", "< a < b"), [51, 2, 8])

    def test_zeros_in_front(self):
        self.assertEqual(key_row(BY_VALUE, "007", self.DIGITS), [1, 2, 8])
        self.assertEqual(key_row(BY_VALUE, "0070", self.DIGITS), [1, 3, 8, 1])

    def test_zeros_alone(self):
        self.assertEqual(key_row(BY_VALUE, "0", self.DIGITS), [1, 1])
        self.assertEqual(key_row(BY_VALUE, "000", self.DIGITS), [1, 1])
        self.assertEqual(key_row(BY_VALUE, "0a00", self.DIGITS), [1, 1, 11, 1, 1])

    def test_other_levels_are_as_they_were(self):
        told = "< 0 <<< z < 1 << 2"
        self.assertEqual(key_row(3 + BY_VALUE, "012", told), [1, 3, 2, 3, 0, 1, 1, 2, 0, 1, 1, 1, 0, 49, 50, 51])
        self.assertEqual(key_row(1 + BY_VALUE + FROM_END, "012", told), [1, 3, 2, 3, 0, 2, 1, 1])

    def test_other_items_end_a_run(self):
        self.assertEqual(key_row(BY_VALUE, "1a2", self.DIGITS), [1, 2, 2, 11, 1, 2, 3])
        told = self.DIGITS + " & a = n"
        self.assertEqual(key_row(BY_VALUE, "1n2", told), [1, 2, 2, 11, 1, 2, 3])

    def test_nothing_ends_a_run(self):
        self.assertEqual(key_row(BY_VALUE, "1n2", "= n < 0"), [1, 2, 2, 1, 2, 3])

    def test_an_accent_ends_a_run(self):
        self.assertEqual(key_row(1 + BY_VALUE, "1p2", "<< p < 0"), [1, 2, 2, 1, 2, 3, 0, 1, 2, 1])

    def test_what_is_left_out_ends_a_run(self):
        told = "< ~ '-' < 0"
        self.assertEqual(key_row(BY_VALUE + LIGHTLY, "1-2", told), [2, 2, 2, 2, 2, 3])

    def test_a_string_of_digits_is_no_digit(self):
        told = "< 0 < 10 < 1 < 2"
        self.assertEqual(key_row(BY_VALUE, "2102", told), [1, 2, 3, 2, 1, 2, 3])
        self.assertEqual(key_row(BY_VALUE, "1a", "< 0 < 1a"), [2])

    def test_what_is_counted_as_is_no_digit_and_ends_a_run(self):
        told = "< 0 < 1 / 2 < 2 < a / 1"
        self.assertEqual(key_row(BY_VALUE, "112", told), [1, 2, 2, 3, 1, 2, 2, 3, 1, 2, 3])
        self.assertEqual(key_row(BY_VALUE, "a1", told), [4, 2, 1, 2, 2, 3])
        self.assertEqual(key_row(BY_VALUE, "2a", told), [1, 2, 3, 4, 2])

    def test_0_without_a_first_weight(self):
        told = "<< 0 < 1 < 2"
        self.assertEqual(key_row(BY_VALUE, "1022", told), [1, 2, 2])
        self.assertEqual(key_row(3 + BY_VALUE + LIGHTLY, "12", "= 0 < ~ 1 < 2"), [2, 0, 1, 0, 1, 0, 1, HEAVY])
        self.assertEqual(key_row(1 + BY_VALUE + LIGHTLY, "-0", "<< 0 < ~ '-'"), [0])

    def test_another_digit_without_a_first_weight(self):
        told = "<< 5 < 0"
        self.assertEqual(key_row(BY_VALUE, "5", told), [1, 2, 6])
        self.assertEqual(key_row(3 + BY_VALUE + LIGHTLY, "50", told), [1, 3, 6, 1, 0, 2, 1, 0, 1, 1, 0, HEAVY])

    def test_a_digit_that_is_nothing(self):
        self.assertEqual(key_row(2 + BY_VALUE, "55", "= 5 < 0"), [1, 3, 6, 6, 0, 0])

    def test_light_digits_do_not_count_lightly(self):
        told = "< ~ 0 < ~ 1 < a"
        self.assertEqual(key_row(3 + BY_VALUE + LIGHTLY, "a10", told), [
            3, 1, 3, 2, 1, 0, 1, 1, 1, 0, 1, 1, 1, 0, HEAVY, HEAVY, HEAVY])
        self.assertEqual(key_row(3 + LIGHTLY, "a10", told), [3, 0, 1, 0, 1, 0, HEAVY, 2, 1])

    def test_a_digit_ends_what_goes_with_a_light_item(self):
        told = "<< 5 << p < ~ '-' < 0"
        self.assertEqual(key_row(1 + BY_VALUE + LIGHTLY, "-p5p", told), [2, 2, 6, 0, 2, 3])
        self.assertEqual(key_row(1 + LIGHTLY, "-p5p0", told), [2, 0, 1])
        self.assertEqual(key_row(1 + BY_VALUE + LIGHTLY, "-5", "<< ~ 5 < ~ '-' < 0"), [2, 2, 6, 0, 2])

    def test_light_zero_has_its_first_weight_told(self):
        self.assertEqual(key_row(BY_VALUE + LIGHTLY, "07", "< a < ~ 0"), [2, 2, 8])

    def test_a_text_as_long_as_may_be_handed_in(self):
        self.assertEqual(key_row(BY_VALUE, "9" * 24), [49, 25] + [10] * 24)
        self.assertEqual(key_row(BY_VALUE, "0" * 23 + "1"), [49, 2, 2])
        self.assertEqual(key_row(BY_VALUE, "0" * 24), [49, 1])


class WayTest(unittest.TestCase):
    TOLD = "<< p < ~ '-' < 0 < 1 < a << b"
    # Of "b1-p01p": by level, lightly or not, by value or not.
    FIRST = {0: [4, 3, 1, 2, 3], 4: [4, 3, 2, 3], 16: [4, 2, 2, 2, 1, 2, 2, 2], 20: [4, 2, 2, 2, 2, 2, 2]}
    SECOND = {0: [2, 1, 1, 3, 1, 1, 3], 4: [2, 1, 1, 1, 3]}
    THIRD = {0: [1] * 7, 4: [1] * 5}
    FOURTH = {0: [99, 50, 46, 113, 49, 50, 113], 4: [HEAVY, HEAVY, 1, HEAVY, HEAVY]}

    def test_every_way(self):
        for way in range(32):
            second = self.SECOND[way & 4]
            rows = [
                self.FIRST[way & 20], second[::-1] if way & 8 else second, self.THIRD[way & 4], self.FOURTH[way & 4]]
            expected = list(rows[0])
            for level in range(1, way % 4 + 1):
                expected += [0] + rows[level]
            self.assertEqual(key_row(way, "b1-p01p", self.TOLD), expected, way)

    def test_ways_above_31(self):
        for way in (32, 33, 63, 64, 4294967295):
            self.assertEqual(ask(key(way, "a")), [[-1]])
            self.assertEqual(ask(key(way, "")), [[-1]])

    def test_numbers_that_are_no_characters(self):
        for number in (55296, 57343, 1114112, 4294967295):
            for way in (0, 31):
                self.assertEqual(ask(key(way, [97, number])), [[-3]])
            self.assertEqual(ask(key(32, [97, number])), [[-1]])

    def test_refusals_change_nothing(self):
        self.assertEqual(ask(rules("< a"), key(32, "a"), key(0, [55296]), key(0, "a")), [[0], [-1], [-3], [0, 1, 1]])
        self.assertEqual(fault("< a"), [0])

    def test_a_text_as_long_as_may_be_handed_in(self):
        told = "< a / bbbb < b"
        ones = [1] * 120
        self.assertEqual(key_row(3, "a" * 24, told), [1, 2, 2, 2, 2] * 24 + [0] + ones + [0] + ones + [0] + [98] * 24)
        self.assertEqual(key_row(0, row("a") * 23 + [1114111]), [98] * 23 + [1114112])


if __name__ == "__main__":
    unittest.main()
