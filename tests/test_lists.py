"""Lists of texts: sorted, ranks, labels, and what stands wrong."""

import unittest

from tests.calls import ask, in_order, label, last, rank, rules, sort, told_of, with_length, wrong

LIGHTLY = 4
FROM_END = 8
BY_VALUE = 16
NO_CHARACTERS = (55296, 57343, 1114112, 4294967295)

# Their weights: ' 0 3 1, - 1 1 1 (light), a 2 1 1, A 2 1 2, b 3 1 1, c 3 2 1.
LETTERS = "<< '''' < ~ '-' < a <<< A < b << c"
FRENCH = "< c < e << E < o << O < r < t"

# Rows that are no lists: some length goes beyond the row's end.
NO_LISTS = ([1], [2, 97], [4294967295], [0, 1], [1, 97, 1], [1, 97, 3, 97, 98], [60] + [97] * 59)


def list_calls(way, texts, text, upto=0):
    """Each call that has a list."""
    return [sort(way, texts), rank(way, upto, texts, text), label(way, texts, text), wrong(way, texts)]


def row_calls(way, row, text, upto=0):
    """Each call that has a list, with this row in its place."""
    return [
        [13, way] + with_length(row), [14, way, upto] + with_length(row) + with_length(text),
        [15, way] + with_length(row) + with_length(text), [16, way] + with_length(row)]


class SortTest(unittest.TestCase):
    def test_form_of_the_answer(self):
        self.assertEqual(ask(sort(0, ["b", "c", "a"])), [[0, 3, 2, 0, 1]])

    def test_no_text_and_one(self):
        for way in range(32):
            self.assertEqual(ask(sort(way, []), sort(way, [""]), sort(way, ["a"])), [[0, 0], [0, 1, 0], [0, 1, 0]])

    def test_equal_texts_as_they_came(self):
        self.assertEqual(told_of(sort(0, ["b", "A", "a", "c", "A", "a"]), LETTERS), [6, 1, 2, 4, 5, 0, 3])
        self.assertEqual(told_of(sort(31, ["ab"] * 5)), [5, 0, 1, 2, 3, 4])
        self.assertEqual(told_of(sort(3, ["", "", ""])), [3, 0, 1, 2])

    def test_by_each_level(self):
        texts = ["c", "A", "b", "a"]
        self.assertEqual([in_order(way, texts, LETTERS) for way in range(4)], [
            ["A", "a", "c", "b"], ["A", "a", "b", "c"], ["a", "A", "b", "c"], ["a", "A", "b", "c"]])
        self.assertEqual([in_order(way, ["b", "a"], "< b = a") for way in (2, 3)], [["b", "a"], ["a", "b"]])

    def test_a_text_before_a_longer(self):
        self.assertEqual(in_order(3, ["ab", "", "a", "b"], LETTERS), ["", "a", "ab", "b"])

    def test_second_weights_from_the_end(self):
        texts = ["cOtE", "coter", "cotE", "cOte", "cote"]
        self.assertEqual(in_order(1, texts, FRENCH), ["cote", "cotE", "cOte", "cOtE", "coter"])
        self.assertEqual(in_order(1 + FROM_END, texts, FRENCH), ["cote", "cOte", "cotE", "cOtE", "coter"])

    def test_light_items(self):
        texts = ["ab", "a-b", "aa", "b-"]
        self.assertEqual(in_order(2, texts, LETTERS), ["a-b", "aa", "ab", "b-"])
        self.assertEqual(in_order(2 + LIGHTLY, texts, LETTERS), ["aa", "ab", "a-b", "b-"])
        self.assertEqual(in_order(3 + LIGHTLY, texts, LETTERS), ["aa", "a-b", "ab", "b-"])

    def test_by_value(self):
        texts = ["a10", "a9", "a010", "a", "a1"]
        self.assertEqual(in_order(0, texts), ["a", "a010", "a1", "a10", "a9"])
        self.assertEqual(in_order(BY_VALUE, texts), ["a", "a1", "a9", "a10", "a010"])

    def test_entries_of_several_characters(self):
        self.assertEqual(in_order(0, ["d", "ch", "cz", "c"], "< c < d & c < ch"), ["c", "cz", "ch", "d"])

    def test_lists_as_long_as_may_be_handed_in(self):
        self.assertEqual(told_of(sort(31, [""] * 60)), [60] + list(range(60)))
        self.assertEqual(told_of(sort(0, [[number] for number in range(30, 0, -1)])), [30] + list(range(29, -1, -1)))
        self.assertEqual(told_of(sort(31, ["a" * 59])), [1, 0])


class RankTest(unittest.TestCase):
    TEXTS = ["b", "a", "A", "c", "a", "b"]

    def ranks(self, way, text, *told):
        return tuple(told_of(rank(way, upto, self.TEXTS, text), *told)[0] for upto in (0, 1))

    def test_form_of_the_answer(self):
        self.assertEqual(ask(rank(0, 0, ["a", "b", "c"], "b"), rank(0, 1, ["a", "b", "c"], "b")), [[0, 1], [0, 2]])

    def test_less_and_less_or_equal(self):
        self.assertEqual(self.ranks(2, "a", LETTERS), (0, 2))
        self.assertEqual(self.ranks(2, "A", LETTERS), (2, 3))
        self.assertEqual(self.ranks(2, "b", LETTERS), (3, 5))
        self.assertEqual(self.ranks(2, "c", LETTERS), (5, 6))

    def test_by_each_level(self):
        self.assertEqual([self.ranks(way, "b", LETTERS) for way in range(4)], [(3, 6), (3, 5), (3, 5), (3, 5)])
        self.assertEqual([self.ranks(way, "A", LETTERS) for way in range(4)], [(0, 3), (0, 3), (2, 3), (2, 3)])

    def test_texts_that_are_not_there(self):
        self.assertEqual(self.ranks(2, "", LETTERS), (0, 0))
        self.assertEqual(self.ranks(2, "ab", LETTERS), (3, 3))
        self.assertEqual(self.ranks(2, "x", LETTERS), (6, 6))

    def test_no_text_and_one(self):
        for way in range(32):
            self.assertEqual(ask(rank(way, 0, [], "a"), rank(way, 1, [], ""), rank(way, 0, [""], "a")), [
                [0, 0], [0, 0], [0, 1]])
            self.assertEqual(ask(rank(way, 0, [""], ""), rank(way, 1, [""], ""), rank(way, 1, ["a"], "")), [
                [0, 0], [0, 1], [0, 0]])

    def test_equal_ones(self):
        self.assertEqual(ask(rank(0, 0, ["a"] * 5, "a"), rank(0, 1, ["a"] * 5, "a")), [[0, 0], [0, 5]])

    def test_other_ways(self):
        texts = ["a-b", "ab", "a-'b"]
        self.assertEqual(told_of(rank(2 + LIGHTLY, 1, texts, "ab"), LETTERS), [3])
        self.assertEqual(told_of(rank(3 + LIGHTLY, 0, texts, "ab"), LETTERS), [2])
        self.assertEqual(told_of(rank(BY_VALUE, 0, ["9", "10", "010", "11"], "10")), [1])
        self.assertEqual(told_of(rank(BY_VALUE, 1, ["9", "10", "010", "11"], "10")), [3])
        self.assertEqual(told_of(rank(1 + FROM_END, 0, ["cOte"], "cotE"), FRENCH), [1])
        self.assertEqual(told_of(rank(1, 0, ["cOte"], "cotE"), FRENCH), [0])

    def test_upto_above_1(self):
        for upto in (2, 3, 4294967295):
            self.assertEqual(ask(rank(0, upto, ["a"], "a"), rank(0, upto, [], "")), [[-1], [-1]])

    def test_lists_as_long_as_may_be_handed_in(self):
        self.assertEqual(ask(rank(31, 0, [""] * 60, "a" * 24), rank(31, 1, [""] * 60, "")), [[0, 60], [0, 60]])


class LabelTest(unittest.TestCase):
    def test_form_of_the_answer(self):
        self.assertEqual(ask(label(0, ["a", "c"], "b"), label(0, ["b"], "a")), [[0, 0], [-2]])

    def test_the_greatest_that_is_not_greater(self):
        texts = ["m", "c", "x", "g"]
        self.assertEqual(
            [ask(label(0, texts, text))[0] for text in ("b", "c", "d", "gz", "h", "m", "w", "x", "z")],
            [[-2], [0, 1], [0, 1], [0, 3], [0, 3], [0, 0], [0, 0], [0, 2], [0, 2]])

    def test_of_several_equal_ones_the_last(self):
        self.assertEqual(told_of(label(0, ["a", "A", "c", "a", "b"], "a"), LETTERS), [3])
        self.assertEqual(told_of(label(2, ["a", "A", "c", "a", "A", "b"], "A"), LETTERS), [4])
        self.assertEqual(told_of(label(2, ["a", "A", "c", "a", "b"], "A"), LETTERS), [1])
        self.assertEqual(told_of(label(2, ["a"] * 5, "b"), LETTERS), [4])
        self.assertEqual(told_of(label(0, ["b", "a", "c"], "b"), LETTERS), [2])
        self.assertEqual(told_of(label(1, ["b", "a", "c"], "b"), LETTERS), [0])

    def test_none_is_left(self):
        for way in range(32):
            self.assertEqual(
                ask(label(way, [], "a"), label(way, [], ""), label(way, ["a"], ""), label(way, ["b"], "a")), [[-2]] * 4)

    def test_one_text(self):
        for way in range(32):
            self.assertEqual(ask(label(way, [""], ""), label(way, [""], "a"), label(way, ["a"], "a")), [[0, 0]] * 3)

    def test_a_lesser_one_behind_a_greater(self):
        self.assertEqual(ask(label(0, ["b", "a"], "c"), label(0, ["a", "b"], "c")), [[0, 0], [0, 1]])

    def test_other_ways(self):
        self.assertEqual(told_of(label(2 + LIGHTLY, ["ab", "a-b", "aa"], "ab"), LETTERS), [1])
        self.assertEqual(told_of(label(2, ["ab", "a-b", "aa"], "ab"), LETTERS), [0])
        self.assertEqual(told_of(label(BY_VALUE, ["9", "10", "100"], "50")), [1])
        self.assertEqual(told_of(label(0, ["9", "10", "100"], "50")), [2])
        self.assertEqual(told_of(label(1 + FROM_END, ["cote", "cOte"], "cotE"), FRENCH), [1])
        self.assertEqual(told_of(label(1, ["cote", "cOte"], "cotE"), FRENCH), [0])

    def test_lists_as_long_as_may_be_handed_in(self):
        self.assertEqual(ask(label(31, [""] * 60, "")), [[0, 59]])
        self.assertEqual(ask(label(0, [[number] for number in range(30)], [12])), [[0, 12]])


class WrongTest(unittest.TestCase):
    def test_form_of_the_answer(self):
        self.assertEqual(ask(wrong(0, ["a", "c", "b"]), wrong(0, ["a", "b", "c"])), [[0, 2], [-2]])

    def test_the_first_place(self):
        self.assertEqual(ask(wrong(0, ["b", "a", "c"]), wrong(0, ["c", "b", "a"])), [[0, 1], [0, 1]])

    def test_the_first_of_several(self):
        self.assertEqual(
            ask(wrong(0, ["a", "c", "b", "a"]), wrong(0, ["a", "b", "c", "b", "c", "a"])), [[0, 2], [0, 3]])

    def test_less_than_the_one_right_before_it_alone(self):
        self.assertEqual(ask(wrong(0, ["c", "a", "b", "a"]), wrong(0, ["a", "d", "b", "c"])), [[0, 1], [0, 2]])

    def test_equal_neighbours(self):
        self.assertEqual(told_of(wrong(2, ["a", "a", "A", "A", "a"]), LETTERS), [4])
        self.assertEqual(
            [last(rules(LETTERS), wrong(way, ["A", "a"])) for way in range(4)], [[-2], [-2], [0, 1], [0, 1]])
        self.assertEqual(ask(wrong(31, ["a"] * 9), wrong(31, [""] * 9)), [[-2], [-2]])

    def test_no_text_and_one(self):
        for way in range(32):
            self.assertEqual(ask(wrong(way, []), wrong(way, [""]), wrong(way, ["a"])), [[-2]] * 3)
            self.assertEqual(ask(wrong(way, ["a", ""]), wrong(way, ["", "a"])), [[0, 1], [-2]])

    def test_other_ways(self):
        self.assertEqual(last(rules(LETTERS), wrong(2 + LIGHTLY, ["ab", "a-b"])), [-2])
        self.assertEqual(last(rules(LETTERS), wrong(3 + LIGHTLY, ["ab", "a-b"])), [0, 1])
        self.assertEqual(ask(wrong(0, ["9", "10"]), wrong(BY_VALUE, ["9", "10"]), wrong(BY_VALUE, ["10", "9"])), [
            [0, 1], [-2], [0, 1]])
        self.assertEqual(last(rules(FRENCH), wrong(1, ["cOte", "cotE"])), [0, 1])
        self.assertEqual(last(rules(FRENCH), wrong(1 + FROM_END, ["cOte", "cotE"])), [-2])

    def test_lists_as_long_as_may_be_handed_in(self):
        self.assertEqual(ask(wrong(31, [""] * 60)), [[-2]])
        self.assertEqual(ask(wrong(31, [[number] for number in range(29)] + [[3]])), [[0, 29]])


class RefusalTest(unittest.TestCase):
    def test_ways_above_31(self):
        for way in (32, 33, 64, 4294967295):
            self.assertEqual(ask(*list_calls(way, ["b", "a"], "b")), [[-1]] * 4)
            self.assertEqual(ask(*list_calls(way, [], "")), [[-1]] * 4)

    def test_every_way(self):
        for way in range(32):
            self.assertEqual(ask(*list_calls(way, ["b", "a"], "b")), [[0, 2, 1, 0], [0, 1], [0, 0], [0, 1]])

    def test_rows_that_are_no_lists(self):
        for row in NO_LISTS:
            self.assertEqual(ask(*row_calls(0, row, "a")), [[-1]] * 4, row)

    def test_rows_that_are_lists(self):
        self.assertEqual(ask(*row_calls(0, [0], "a")), [[0, 1, 0], [0, 1], [0, 0], [-2]])
        self.assertEqual(ask(*row_calls(0, [1, 97, 0], "a")), [[0, 2, 1, 0], [0, 1], [0, 0], [0, 1]])
        self.assertEqual(ask(*row_calls(0, [2, 0, 0, 0], "a")), [[0, 2, 1, 0], [0, 2], [0, 0], [0, 1]])

    def test_numbers_that_are_no_characters(self):
        for number in NO_CHARACTERS:
            for texts in ([[number]], ["a", [97, number]], [[number], "a"], ["a", [number, 97], "b"]):
                self.assertEqual(ask(*list_calls(0, texts, "a")), [[-3]] * 4)
            self.assertEqual(
                ask(rank(0, 0, ["a"], [number]), rank(0, 1, [], [97, number]), label(0, ["a"], [number])), [[-3]] * 3)

    def test_numbers_next_to_those_that_are_no_characters(self):
        for number in (0, 55295, 57344, 1114111):
            self.assertEqual(ask(*list_calls(0, [[number]], [number])), [[0, 1, 0], [0, 0], [0, 0], [-2]])

    def test_several_at_once(self):
        for number in NO_CHARACTERS:
            self.assertEqual(ask(*list_calls(32, [[number]], [number])), [[-1]] * 4)
            self.assertEqual(ask(*row_calls(0, [1, number, 1], [number])), [[-1]] * 4)
            self.assertEqual(ask(*row_calls(0, [2, number], [number])), [[-1]] * 4)
            self.assertEqual(ask(*row_calls(32, [2, number], [number])), [[-1]] * 4)
            self.assertEqual(ask(rank(0, 2, [[number]], [number])), [[-1]])
            self.assertEqual(ask(label(0, [], [number]), label(0, [[number]], "")), [[-3], [-3]])
            self.assertEqual(ask(wrong(0, [[number]])), [[-3]])

    def test_refusals_change_nothing(self):
        calls = row_calls(0, [1], "a") + list_calls(32, ["a"], "a") + list_calls(0, [[55296]], "a")
        self.assertEqual(ask(rules("< b < a"), *calls, sort(0, ["a", "b"]))[-1], [0, 2, 1, 0])


if __name__ == "__main__":
    unittest.main()
