"""What rules make of an order, and their faults."""

import unittest

from lookuporder.following import follow_rules
from lookuporder.order import Entry, Order
from tests.calls import ask, count, entry, fault, last, new, row, rules, where, write, written


def order_of(size):
    return Order([Entry((1000 + i,), 1, False, ()) for i in range(size)])


class PuttingTest(unittest.TestCase):
    def test_document_example(self):
        first = "< a << b <<< c < d"
        self.assertEqual(written(first), "< a\n<< b\n<<< c\n< d\n")
        self.assertEqual(written(first, "& a << x"), "< a\n<< x\n<< b\n<<< c\n< d\n")
        self.assertEqual(written(first, "& a << x", "& d < b"), "< a\n<< x\n<< c\n< d\n< b\n")

    def test_rules_in_one_row_are_as_in_several(self):
        told = ("< a << b <<< c < d", "& a << x", "& d < b")
        self.assertEqual(written(" ".join(told)), written(*told))

    def test_a_new_entry_passes_what_differs_less(self):
        first = "< a << b <<< c = d < e"
        self.assertEqual(written(first, "& a < x"), "< a\n<< b\n<<< c\n= d\n< x\n< e\n")
        self.assertEqual(written(first, "& a << x"), "< a\n<< x\n<< b\n<<< c\n= d\n< e\n")
        self.assertEqual(written(first, "& a <<< x"), "< a\n<<< x\n<< b\n<<< c\n= d\n< e\n")
        self.assertEqual(written(first, "& b << x"), "< a\n<< b\n<<< c\n= d\n<< x\n< e\n")
        self.assertEqual(written(first, "& b <<< x"), "< a\n<< b\n<<< x\n<<< c\n= d\n< e\n")
        self.assertEqual(written(first, "& c <<< x"), "< a\n<< b\n<<< c\n= d\n<<< x\n< e\n")
        self.assertEqual(written(first, "& c = x"), "< a\n<< b\n<<< c\n= x\n= d\n< e\n")

    def test_rules_begin_behind_the_last_entry(self):
        self.assertEqual(written("< a < b", "& a << x", "<< y"), "< a\n<< x\n< b\n<< y\n")

    def test_what_follows_stands_behind_the_entry_put(self):
        self.assertEqual(written("< a < b < c", "& a << x <<< y < z"), "< a\n<< x\n<<< y\n< z\n< b\n< c\n")

    def test_an_anchor_alone_changes_nothing(self):
        self.assertEqual(written("< a < b", "& a"), "< a\n< b\n")
        self.assertEqual(written("< a < b", "& a & b & a << x"), "< a\n<< x\n< b\n")

    def test_an_anchor_put_in_the_same_row(self):
        self.assertEqual(written("< a < b & a << x"), "< a\n<< x\n< b\n")

    def test_an_anchor_of_several_characters_and_quotes(self):
        self.assertEqual(written("< ch < '&' < z & ch << x & '&' << y"), "< ch\n<< x\n< '&'\n<< y\n< z\n")

    def test_the_first_entry_may_have_each_strength(self):
        for told in ("< a\n", "<< a\n", "<<< a\n", "= a\n"):
            self.assertEqual(written(told), told)


class MovingTest(unittest.TestCase):
    def test_follower_takes_the_lesser_strength(self):
        self.assertEqual(written("< a < b << c < d", "& d < b"), "< a\n< c\n< d\n< b\n")
        self.assertEqual(written("< a <<< b << c < d", "& d < b"), "< a\n<< c\n< d\n< b\n")
        self.assertEqual(written("< a << b = c < d", "& d < b"), "< a\n<< c\n< d\n< b\n")
        self.assertEqual(written("< a = b = c < d", "& d < b"), "< a\n= c\n< d\n< b\n")

    def test_first_entry_moved(self):
        self.assertEqual(written("<< a <<< b < c", "& c < a"), "<< b\n< c\n< a\n")

    def test_last_entry_moved(self):
        self.assertEqual(written("< a < b << c", "& a = c"), "< a\n= c\n< b\n")

    def test_moved_in_its_place(self):
        self.assertEqual(written("< a < b <<< c", "& a << b"), "< a\n<< b\n< c\n")

    def test_behind_what_stood_right_behind_it(self):
        self.assertEqual(written("< a << b <<< c", "& c <<< b"), "< a\n<< c\n<<< b\n")

    def test_follower_is_not_passed_when_its_strength_is_lessened(self):
        self.assertEqual(written("< a < b <<< c < d", "& a << b"), "< a\n<< b\n< c\n< d\n")

    def test_light_and_what_it_counted_as_are_gone(self):
        self.assertEqual(written("< a < ~ b / xy < c", "& a << b"), "< a\n<< b\n< c\n")
        self.assertEqual(written("< a < b < c", "& a << ~ b / xy"), "< a\n<< ~ b / xy\n< c\n")
        self.assertEqual(written("< a < ~ b / xy < c", "& c < b / z"), "< a\n< c\n< b / z\n")
        self.assertEqual(written("< a < ~ b / xy < c", "& c < ~ b"), "< a\n< c\n< ~ b\n")

    def test_follower_stays_light_and_counts_as_before(self):
        self.assertEqual(written("< a << b <<< ~ c / xy < d", "& d < b"), "< a\n<< ~ c / xy\n< d\n< b\n")

    def test_all_moved_in_one_row(self):
        self.assertEqual(written("< a < b < c", "& c < b < a"), "< c\n< b\n< a\n")

    def test_count_and_where_after_a_move(self):
        told = [rules("< a < b < c"), rules("& c < a"), count()]
        self.assertEqual(ask(*told, where("a"), where("b"), where("c"))[2:], [[0, 3], [0, 2], [0, 0], [0, 1]])


class FaultTest(unittest.TestCase):
    def test_no_entry_has_the_string(self):
        self.assertEqual(fault("& b", "< a"), [-4, 2])
        self.assertEqual(fault("&b<c", "< a"), [-4, 1])
        self.assertEqual(fault("& bcd < x", "< a"), [-4, 4])
        self.assertEqual(fault("& 'bc' < x", "< a"), [-4, 5])
        self.assertEqual(fault("& b'c' < x", "< a"), [-4, 5])
        self.assertEqual(fault("& b'' < x", "< a"), [-4, 4])
        self.assertEqual(fault("& ''b < x", "< a"), [-4, 4])
        self.assertEqual(fault("& a"), [-4, 2])

    def test_a_part_of_a_string_is_another(self):
        self.assertEqual(fault("& a", "< ab"), [-4, 2])
        self.assertEqual(fault("& ab", "< a"), [-4, 3])

    def test_an_anchor_that_comes_later_is_not_there_yet(self):
        self.assertEqual(fault("< a & b < c < b"), [-4, 6])

    def test_behind_itself(self):
        self.assertEqual(fault("< a < a"), [-6, 6])
        self.assertEqual(fault("& a << a", "< a < b"), [-6, 7])
        self.assertEqual(fault("= a", "< a"), [-6, 2])
        self.assertEqual(fault("< ''b", "< a < b"), [-6, 4])
        self.assertEqual(fault("< 'b'", "< a < b"), [-6, 4])
        self.assertEqual(fault("< bcd", "< bcd"), [-6, 4])

    def test_behind_itself_is_told_at_the_last_string(self):
        self.assertEqual(fault("& a < a / bc", "< a"), [-6, 11])
        self.assertEqual(fault("& a < ~ a/'b' < c", "< a"), [-6, 12])
        self.assertEqual(fault("& a < a  < b", "< a"), [-6, 6])

    def test_an_entry_of_the_same_beginning_is_not_itself(self):
        self.assertEqual(written("< a < ab < abc"), "< a\n< ab\n< abc\n")

    def test_the_first_place_counts(self):
        self.assertEqual(fault("& q < a < a", "< a"), [-4, 2])
        self.assertEqual(fault("& a < a & q", "< a"), [-6, 6])
        self.assertEqual(fault("& q < ", "< a"), [-4, 2])
        self.assertEqual(fault("& q q", "< a"), [-4, 2])
        self.assertEqual(fault("& a < a b", "< a"), [-6, 6])
        self.assertEqual(fault("& a < a / b /", "< a"), [-6, 10])
        self.assertEqual(fault("& a < b c & q", "< a"), [-1, 8])
        self.assertEqual(fault(row("& q ") + [55296], "< a"), [-4, 2])
        self.assertEqual(fault(row("& a < a ") + [55296], "< a"), [-6, 6])

    def test_a_string_that_does_not_end_has_no_fault_of_its_own(self):
        self.assertEqual(fault("& qrstu", "< a"), [-1, 6])
        self.assertEqual(fault("& q'", "< a"), [-1, 4])
        self.assertEqual(fault(row("& q") + [55296], "< a"), [-1, 3])
        self.assertEqual(fault(row("& a < a") + [55296], "< a"), [-1, 7])
        self.assertEqual(fault("& a < a /", "< a"), [-1, 9])
        self.assertEqual(fault("& a < a / &", "< a"), [-1, 10])

    def test_faults_leave_the_order(self):
        before = "< a << ~ b / xy <<< c < d"
        looks = [count(), entry(0), entry(1), entry(2), entry(3), entry(4), write()]
        for told in ("< e < f <", "& a < e & q", "& a < d < e < e", "& b < a & c < b x", "< e < abcde"):
            seen = ask(rules(before), *looks)[1:]
            answered = ask(rules(before), rules(told), *looks)
            self.assertLess(answered[1][0], 0)
            self.assertEqual(answered[2:], seen)

    def test_rules_go_on_as_before_behind_a_fault(self):
        answered = ask(rules("< a < b"), rules("& a < x < x"), rules("<< y"), write())
        self.assertEqual("".join(chr(number) for number in answered[3][2:]), "< a\n< b\n<< y\n")


class ManyEntriesTest(unittest.TestCase):
    # No list of calls comes to 1,024 entries, so this is asked of the order by itself.
    def test_up_to_1024_entries(self):
        followed = follow_rules(order_of(1023), row("< a"))
        self.assertEqual(followed[1], None)
        self.assertEqual(len(followed[0].entries), 1024)

    def test_one_more_is_a_fault(self):
        order = order_of(1024)
        self.assertEqual(follow_rules(order, row("< a"))[1], (-5, 2))
        self.assertEqual(follow_rules(order, row("< 'ab' / 'c' < d"))[1], (-5, 11))
        self.assertEqual(follow_rules(order_of(1023), row("< a < b"))[1], (-5, 6))

    def test_the_order_then_stays(self):
        order = order_of(1022)
        followed = follow_rules(order, row("< a < b < c"))
        self.assertEqual(followed[1], (-5, 10))
        self.assertEqual([one.string for one in followed[0].entries], [(1000 + i,) for i in range(1022)])
        self.assertEqual(len(order.entries), 1022)

    def test_an_entry_may_be_moved_in_a_full_order(self):
        order = order_of(1024)
        followed = follow_rules(order, row("& ") + [1000] + row(" << ") + [1005])
        self.assertEqual(followed[1], None)
        self.assertEqual(len(followed[0].entries), 1024)
        self.assertEqual(followed[0].place_of((1005,)), 1)

    def test_behind_itself_in_a_full_order(self):
        self.assertEqual(follow_rules(order_of(1024), row("< ") + [2023])[1], (-6, 2))

    def test_other_faults_in_a_full_order(self):
        self.assertEqual(follow_rules(order_of(1024), row("& q < a"))[1], (-4, 2))
        self.assertEqual(follow_rules(order_of(1024), row("< a b"))[1], (-5, 2))
        self.assertEqual(follow_rules(order_of(1024), row("< ab'"))[1], (-1, 5))


class LongRowTest(unittest.TestCase):
    def test_rows_as_long_as_may_be_handed_in(self):
        told = []
        for i in range(60):
            told += [60, 1000 + i]
        self.assertEqual(len(told), 120)
        self.assertEqual(last(rules(told), count()), [0, 60])
        self.assertEqual(fault([32] * 120), [0])
        self.assertEqual(fault(row("<") + [32] * 119), [-1, 120])

    def test_as_many_entries_as_calls_may_make(self):
        calls = [rules([number for i in range(60) for number in (60, 1000 + 60 * k + i)]) for k in range(15)]
        self.assertEqual(last(*calls, count()), [0, 900])

    def test_new_forgets(self):
        self.assertEqual(ask(rules("< a"), new(), count(), where("a"), write()), [[0], [0], [0, 0], [-2], [0, 0]])


if __name__ == "__main__":
    unittest.main()
