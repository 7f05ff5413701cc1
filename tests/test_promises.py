"""What is promised over the whole program, over many orders, texts and ways."""

import itertools
import unittest

from tests.calls import (
    ask, begins, compare, count, entry, find, hashed, in_order, item_row, key, label, rank, row, rules, sort, told_of,
    wrong)

WAYS = range(32)
# Those without bits 2 and 4.
PLAIN_WAYS = (0, 1, 2, 3, 8, 9, 10, 11)

# Of each order its rules, and characters that its entries and texts are of.
ORDERS = (
    ("", "a1b"),
    ("< a << b <<< c = d < e", "abcd"),
    ("<< '''' < ~ '-' < a <<< A", "'-aA"),
    ("= n <<< f << p < ~ l << m < a", "nfpla"),
    ("<< ~ 5 < 0 < ~ 1 < a", "501a"),
    ("< a < e & a <<< q / eq < ~ aq", "aeq"),
)


def texts_over(signs):
    """Some texts of up to four of the signs, the empty one among them."""
    short = ["".join(text) for size in range(3) for text in itertools.product(signs, repeat=size)]
    long = ["".join(text) for size in (3, 4) for text in itertools.product(signs, repeat=size)]
    return short[:9] + long[::len(long) // 7]


def ask_each(told, calls):
    """What is answered to each call by the order that the rules make, as many calls at a time as may be."""
    answered = []
    for place in range(0, len(calls), 15):
        answered += ask(rules(told), *calls[place:place + 15])[1:]
    return answered


def table(told, way, texts):
    """How each two of the texts compare."""
    pairs = list(itertools.product(range(len(texts)), repeat=2))
    told_pairs = ask_each(told, [compare(way, texts[one], texts[other]) for one, other in pairs])
    return {pair: answer[1] for pair, answer in zip(pairs, told_pairs)}


def sign_of(one, other):
    return (one > other) - (one < other)


class OneOrderTest(unittest.TestCase):
    """Promises 1 and 3."""

    @classmethod
    def setUpClass(cls):
        cls.tables = {}
        for told, signs in ORDERS:
            texts = texts_over(signs)
            for way in WAYS:
                cls.tables[told, way] = (texts, table(told, way, texts))

    def test_each_pair_is_told_the_same_from_both_sides(self):
        for texts, compared in self.tables.values():
            for one, other in compared:
                self.assertEqual(compared[one, other], -compared[other, one])
                self.assertIn(compared[one, other], (-1, 0, 1))
            self.assertEqual({compared[one, one] for one in range(len(texts))}, {0})

    def test_less_than_what_is_less_is_less(self):
        for texts, compared in self.tables.values():
            for one, two, three in itertools.product(range(len(texts)), repeat=3):
                first, second = compared[one, two], compared[two, three]
                if first <= 0 and second <= 0:
                    self.assertEqual(compared[one, three], min(first, second))

    def test_keys_say_it(self):
        for (told, way), (texts, compared) in self.tables.items():
            keys = [answer[2:] for answer in ask_each(told, [key(way, text) for text in texts])]
            for one, other in compared:
                expected = sign_of(keys[one], keys[other])
                self.assertEqual(compared[one, other], expected, (told, way, texts[one], texts[other]))

    def test_hashes_go_by_the_keys(self):
        for (told, way), (texts, compared) in self.tables.items():
            hashes = [answer[1] for answer in ask_each(told, [hashed(way, text) for text in texts])]
            for one, other in compared:
                self.assertEqual(compared[one, other] == 0, hashes[one] == hashes[other])
            self.assertTrue(all(0 <= number < 2 ** 64 for number in hashes))

    def test_what_is_equal_at_a_level_is_equal_at_lesser_ones(self):
        for (told, way), (texts, compared) in self.tables.items():
            for lesser in range(way - way % 4, way):
                below = self.tables[told, lesser][1]
                for pair in compared:
                    if compared[pair] == 0:
                        self.assertEqual(below[pair], 0)
                    if below[pair] != 0:
                        self.assertEqual(compared[pair], below[pair])

    def test_each_level_tells_something_in_some_order(self):
        for base in range(0, 32, 4):
            for way in range(base + 1, base + 4):
                self.assertTrue(any(
                    self.tables[told, way][1][pair] != 0 and self.tables[told, way - 1][1][pair] == 0
                    for told, signs in ORDERS for pair in self.tables[told, way][1]), way)

    def test_equal_texts_begin_with_one_another_and_are_found(self):
        for (told, way), (texts, compared) in self.tables.items():
            equal = [(texts[one], texts[other]) for one, other in compared if compared[one, other] == 0]
            self.assertEqual(ask_each(told, [begins(way, *pair) for pair in equal]), [[0, 1]] * len(equal))
            whole = [[0, 0, len(first)] for first, second in equal]
            self.assertEqual(ask_each(told, [find(way, 0, *pair) for pair in equal]), whole)

    def test_lists_go_by_it(self):
        for (told, way), (texts, compared) in self.tables.items():
            numbers = told_of(sort(way, texts[:12]), told)[1:]
            for place, number in enumerate(numbers[1:]):
                before = numbers[place]
                self.assertLessEqual(compared[before, number], 0)
                if compared[before, number] == 0:
                    self.assertLess(before, number)
            for number in (0, 5, 11):
                less = told_of(rank(way, 0, texts[:12], texts[number]), told)[0]
                not_greater = told_of(rank(way, 1, texts[:12], texts[number]), told)[0]
                self.assertEqual(less, sum(compared[other, number] < 0 for other in range(12)))
                self.assertEqual(not_greater, sum(compared[other, number] <= 0 for other in range(12)))
                self.assertEqual(told_of(label(way, texts[:12], texts[number]), told), [numbers[not_greater - 1]])


class PutBehindTest(unittest.TestCase):
    """Promise 4."""

    BEFORE = (
        "< a", "< a << b <<< c = d < e", "<< p <<< o << q < a << b", "= n <<< f <<< g << p < a", "= n = m < a",
        "< a < ab << abc <<< abcd < b", "<<< f << ~ p <<< ~ o < ~ a < ~ b <<< c")
    NEW = ("x", "xy", "0", "1", "a", "b", "p")

    def test_it_compares_so(self):
        for before in self.BEFORE:
            entries = told_of(count(), before)[0]
            strings = [told_of(entry(i), before)[3:-1] for i in range(entries)]
            for behind, string, strength in itertools.product(strings, self.NEW, (1, 2, 3)):
                if row(string) != behind:
                    self.check(before, behind, string, strength)

    def check(self, before, behind, string, strength):
        put = row("&") + behind + row("<" * strength + string)
        calls = [compare(way, behind, string) for way in PLAIN_WAYS]
        answered = ask(rules(before), rules(put), *calls)
        self.assertEqual(answered[:2], [[0], [0]])
        expected = [[0, -1 if way % 4 + 1 >= strength else 0] for way in PLAIN_WAYS]
        self.assertEqual(answered[2:], expected, (before, behind, string, strength))

    def test_strings_put_one_behind_another(self):
        told = "< a << b <<< c < d <<< e << f"
        strengths = (("a", "b", 2), ("b", "c", 3), ("c", "d", 1), ("d", "e", 3), ("e", "f", 2))
        for one, other, strength in strengths:
            self.assertEqual(
                ask(rules(told), *[compare(way, one, other) for way in PLAIN_WAYS])[1:],
                [[0, -1 if way % 4 + 1 >= strength else 0] for way in PLAIN_WAYS])

    def test_strength_4_is_equal_at_all_levels_of_weights(self):
        self.assertEqual(
            ask(rules("< a < b & a = x"), *[compare(way, "a", "x") for way in PLAIN_WAYS])[1:],
            [[0, 0], [0, 0], [0, 0], [0, -1]] * 2)


class NothingLeftOutTest(unittest.TestCase):
    """Promise 5."""

    def test_only_entries_without_weights_are_nothing(self):
        for told, signs in ORDERS:
            for text in texts_over(signs):
                for weights in item_row(text, told):
                    if weights[:3] == (0, 0, 0):
                        self.assertTrue(told.startswith("= n") and "n" in text)

    def test_a_character_without_an_entry_is_never_left_out(self):
        for told, signs in ORDERS:
            for text in texts_over(signs):
                pairs = [(text[:place] + "z" + text[place:], text) for place in range(len(text) + 1)]
                for way in WAYS:
                    for answer in ask_each(told, [compare(way, *pair) for pair in pairs]):
                        self.assertNotEqual(answer, [0, 0], (told, text, way))

    def test_different_texts_differ_where_characters_are_looked_at(self):
        for told, signs in ORDERS:
            texts = texts_over(signs)
            for way in (3, 11, 19, 27):
                compared = table(told, way, texts)
                for one, other in compared:
                    self.assertEqual(compared[one, other] == 0, texts[one] == texts[other])

    def test_entries_with_weights_count_wherever_they_stand(self):
        told = "= n <<< f << p < a"
        for text, place in itertools.product(("", "a", "aa", "pa", "fa", "ana"), range(4)):
            for sign in "fpaz":
                more = text[:place] + sign + text[place:]
                self.assertNotEqual(told_of(compare(2, more, text), told), [0], (text, more))
            more = text[:place] + "n" + text[place:]
            self.assertEqual([told_of(compare(way, more, text), told) for way in range(3)], [[0]] * 3)
            self.assertNotEqual(told_of(compare(3, more, text), told), [0])

    def test_light_ones_are_looked_at_in_the_end(self):
        told = "< ~ '-' < a"
        for more, less in (("a-", "a"), ("-a", "a"), ("a--a", "a-a"), ("-", "")):
            self.assertEqual([told_of(compare(way, more, less), told)[0] == 0 for way in range(4, 8)], [
                True, True, True, False])


class SortingTest(unittest.TestCase):
    """Promise 6."""

    def test_no_text_is_lost(self):
        for told, signs in ORDERS:
            texts = texts_over(signs)[:14]
            for way, texts_now in itertools.product(WAYS, (texts, texts[::-1], texts[:6] + texts[:6])):
                numbers = told_of(sort(way, texts_now), told)
                self.assertEqual(numbers[0], len(texts_now))
                self.assertEqual(sorted(numbers[1:]), list(range(len(texts_now))))

    def test_equal_ones_keep_their_order(self):
        for told, signs in ORDERS:
            texts = texts_over(signs)[:6]
            for way in WAYS:
                numbers = told_of(sort(way, texts * 2), told)[1:]
                for number in range(6):
                    self.assertLess(numbers.index(number), numbers.index(number + 6))

    def test_nothing_is_wrong_in_what_is_sorted(self):
        for told, signs in ORDERS:
            texts = texts_over(signs)[:14]
            for way in WAYS:
                in_turn = in_order(way, texts, told)
                self.assertEqual(ask(rules(told), wrong(way, in_turn))[1], [-2])
                self.assertEqual(in_order(way, in_turn, told), in_turn)


if __name__ == "__main__":
    unittest.main()
