"""The desk: how calls are handed in and answered, and the plain calls."""

import unittest

from lookuporder.desk import answers
from tests.calls import (
    ask, begins, compare, count, entry, find, hashed, items, key, label, last, new, rank, rules, sort, where, write,
    wrong)

MIXED = [
    rules("< a << ~ b / xy"), write(), count(), entry(1), where("b"), items("ab"), key(31, "a1"), rules("< b <"),
    rules("& q"), entry(2), where("q"), where(""), items([55296]), key(32, "a"), new(), count()]
TEXTS = ["b1", "a10", "", "a9"]
COMPARING = [
    rules("< ~ a << b < 0 < 1"), compare(31, "a1", "b1"), hashed(31, "a1b"), begins(31, "a1b", "a"),
    find(31, 1, "ba1b", "a1"), sort(31, TEXTS), rank(31, 1, TEXTS, "b"), label(31, TEXTS, "b"), wrong(31, TEXTS),
    compare(32, "a", "b"), find(0, 5, "a", "a"), sort(0, [[55296]]), rank(0, 2, TEXTS, "a"), label(0, [], "a"),
    wrong(0, []), write()]


def joined(calls):
    return [number for call in calls for number in call]


class FormTest(unittest.TestCase):
    def test_numbers_as_they_are_handed_in_and_given_back(self):
        handed = [2, 5, 60, 97, 60, 60, 98, 4, 5, 1, 6, 1, 98, 7, 1, 98, 8, 1, 2, 97, 98, 3, 1, 4]
        self.assertEqual(answers(handed), [
            1, 0,
            2, 0, 2,
            6, 0, 2, 0, 1, 98, 0,
            2, 0, 1,
            6, 0, 4, 1, 2, 1, 0,
            7, 0, 5, 1, 1, 0, 1, 2,
            11, 0, 9, 60, 32, 97, 10, 60, 60, 32, 98, 10,
            1, 0,
            2, 0, 0])

    def test_refusals(self):
        self.assertEqual(answers([5, 0]), [1, -2])
        self.assertEqual(answers([6, 0]), [1, -1])
        self.assertEqual(answers([6, 1, 97]), [1, -2])
        self.assertEqual(answers([7, 1, 55296]), [1, -3])
        self.assertEqual(answers([8, 32, 0]), [1, -1])
        self.assertEqual(answers([2, 1, 97]), [2, -1, 0])
        self.assertEqual(answers([2, 2, 38, 97]), [2, -4, 1])
        self.assertEqual(answers([2, 4, 60, 97, 60, 97]), [2, -6, 3])

    def test_comparing_calls_as_they_are_handed_in_and_given_back(self):
        handed = [9, 3, 1, 97, 2, 97, 98] + [9, 0, 1, 98, 0] + [10, 0, 0] + [11, 0, 2, 97, 98, 1, 97]
        handed += [12, 0, 1, 3, 97, 98, 97, 1, 97] + [13, 0, 5, 1, 98, 1, 97, 0] + [14, 0, 1, 4, 1, 98, 1, 97, 1, 97]
        handed += [15, 0, 4, 1, 98, 1, 97, 1, 98] + [16, 0, 4, 1, 98, 1, 97] + [4]
        self.assertEqual(answers(handed), [
            2, 0, -1,
            2, 0, 1,
            2, 0, 14695981039346656037,
            2, 0, 1,
            3, 0, 2, 3,
            5, 0, 3, 2, 1, 0,
            2, 0, 1,
            2, 0, 0,
            2, 0, 1,
            2, 0, 0])

    def test_comparing_calls_refused(self):
        self.assertEqual(answers([9, 32, 0, 0]), [1, -1])
        self.assertEqual(answers([10, 0, 1, 55296]), [1, -3])
        self.assertEqual(answers([11, 0, 0, 1, 55296]), [1, -3])
        self.assertEqual(answers([12, 0, 1, 0, 0]), [1, -2])
        self.assertEqual(answers([13, 0, 1, 1]), [1, -1])
        self.assertEqual(answers([14, 0, 2, 0, 0]), [1, -1])
        self.assertEqual(answers([15, 0, 0, 0]), [1, -2])
        self.assertEqual(answers([16, 0, 0]), [1, -2])

    def test_any_call_first(self):
        plain = (new(), rules(""), write(), count(), entry(0), where("a"), items(""), key(0, ""))
        self.assertEqual([ask(call)[0] for call in plain], [[0], [0], [0, 0], [0, 0], [-2], [-2], [0, 0], [0, 0]])
        comparing = (
            compare(0, "", ""), hashed(0, ""), begins(0, "", ""), find(0, 0, "", ""), sort(0, []), rank(0, 0, [], ""),
            label(0, [], ""), wrong(0, []))
        self.assertEqual([ask(call)[0] for call in comparing], [
            [0, 0], [0, 14695981039346656037], [0, 1], [0, 0, 0], [0, 0], [0, 0], [-2], [-2]])

    def test_16_calls(self):
        self.assertEqual(len(MIXED), 16)
        self.assertEqual([part[0] for part in ask(*MIXED)], [0, 0, 0, 0, 0, 0, 0, -6, -4, -2, -2, -1, -3, -1, 0, 0])
        self.assertEqual(len(COMPARING), 16)
        self.assertEqual([part[0] for part in ask(*COMPARING)], [0] * 9 + [-1, -2, -3, -1, -2, -2, 0])
        self.assertEqual(ask(*[count()] * 16), [[0, 0]] * 16)

    def test_what_is_handed_in_is_not_changed(self):
        for calls in (MIXED, COMPARING):
            handed = joined(calls)
            before = list(handed)
            answers(handed)
            self.assertEqual(handed, before)

    def test_nothing_is_kept(self):
        for calls in (MIXED, COMPARING):
            handed = joined(calls)
            first = answers(handed)
            self.assertEqual(answers(handed), first)
            self.assertEqual(answers(list(handed)), first)

    def test_nothing_is_kept_of_other_lists(self):
        handed = joined(MIXED)
        first = answers(handed)
        answers(joined(COMPARING))
        answers(joined([rules("< z")]))
        self.assertEqual(answers(joined([count(), write()])), [2, 0, 0, 2, 0, 0])
        first.append(5)
        self.assertEqual(answers(handed), first[:-1])

    def test_a_refused_row_is_not_kept(self):
        self.assertEqual(ask(rules("< a < b <"), count(), rules("< a"), count()), [[-1, 9], [0, 0], [0], [0, 1]])

    def test_whole_numbers_and_a_list_are_given_back(self):
        for calls in (MIXED, COMPARING):
            given = answers(joined(calls))
            self.assertIs(type(given), list)
            self.assertEqual({type(number) for number in given}, {int})

    def test_the_longest_list_of_calls(self):
        handed = joined([where([97] * 1000)] * 16)
        self.assertEqual(answers(handed), [1, -1] * 16)


class PlainCallTest(unittest.TestCase):
    def test_new(self):
        self.assertEqual(ask(new(), new(), count()), [[0], [0], [0, 0]])
        self.assertEqual(ask(rules("< a < b"), new(), rules("< b"), count(), where("a"), where("b")), [
            [0], [0], [0], [0, 1], [-2], [0, 0]])

    def test_count(self):
        self.assertEqual(ask(count(), rules("< a"), count(), rules("< b << c"), count(), rules("& a < c"), count()), [
            [0, 0], [0], [0, 1], [0], [0, 3], [0], [0, 3]])

    def test_entry(self):
        told = rules("< a << ~ bc / wxyz <<< 'd ef' = ~ '&'")
        self.assertEqual(ask(told, entry(0), entry(1), entry(2), entry(3))[1:], [
            [0, 1, 0, 1, 97, 0], [0, 2, 1, 2, 98, 99, 4, 119, 120, 121, 122],
            [0, 3, 0, 4, 100, 32, 101, 102, 0], [0, 4, 1, 1, 38, 0]])

    def test_no_such_entry(self):
        self.assertEqual(ask(rules("< a < b"), entry(1), entry(2), entry(3), entry(4294967295))[1:], [
            [0, 1, 0, 1, 98, 0], [-2], [-2], [-2]])

    def test_where(self):
        told = rules("< a < ab < abc < abcd < '& '''")
        self.assertEqual(
            ask(told, where("a"), where("ab"), where("abc"), where("abcd"), where("& '"), where("b"), where("& "))[1:],
            [[0, 0], [0, 1], [0, 2], [0, 3], [0, 4], [-2], [-2]])

    def test_where_of_no_string(self):
        self.assertEqual(ask(rules("< a"), where(""), where("aaaaa"), where("a" * 1000))[1:], [[-1]] * 3)
        self.assertEqual(ask(where([4294967295] * 5)), [[-1]])

    def test_where_of_numbers_that_are_no_characters(self):
        for number in (55296, 57343, 1114112, 4294967295):
            self.assertEqual(last(rules("< a"), where([number])), [-2])
            self.assertEqual(last(rules("< a"), where([97, number])), [-2])

    def test_what_an_entry_counts_as_is_no_string_of_it(self):
        self.assertEqual(last(rules("< a / b"), where("b")), [-2])

    def test_the_order_lasts_over_looks_at_it(self):
        for looks in ([write(), entry(0), where("a"), items("a"), key(31, "a")], COMPARING[1:8], COMPARING[8:15]):
            parts = ask(rules("< ~ a << b < 0"), *looks, *looks)[1:]
            self.assertEqual(parts[:len(looks)], parts[len(looks):])


if __name__ == "__main__":
    unittest.main()
