"""How an order is written, and that what is written is followed back."""

import random
import unittest

from lookuporder.following import follow_rules
from lookuporder.order import Order
from lookuporder.writing import written_order
from tests.calls import ask, count, entry, last, row, rules, write, written


def shown(order):
    return [(one.string, one.strength, one.light, one.counts_as) for one in order.entries]


def quoted(string):
    return "'" + string.replace("'", "''") + "'"


def random_rules(source):
    """Rules that now and then name what isn't there or can't be."""
    told = ""
    for i in range(source.randrange(1, 9)):
        if source.randrange(3) == 0:
            told += "& " + quoted(source.choice("abc'& ")) + " "
        told += source.choice(["<", "<<", "<<<", "="]) + source.choice(["", "~"])
        told += quoted(source.choice("abc'& \n") + source.choice(["", "x", "'<", "~/="]))
        told += source.choice(["", "", "/" + quoted(source.choice("ab'& \t") * source.randrange(1, 5))])
    return told


class WritingTest(unittest.TestCase):
    def test_no_entries(self):
        self.assertEqual(ask(write()), [[0, 0]])

    def test_form(self):
        self.assertEqual(last(rules("<a"), write()), [0, 4, 60, 32, 97, 10])
        self.assertEqual(written("=~a/b"), "= ~ a / b\n")
        self.assertEqual(written("<<<ab/cdef<<~gh"), "<<< ab / cdef\n<< ~ gh\n")

    def test_quotes_where_a_string_needs_them(self):
        for sign in "& \t\n<=~/":
            self.assertEqual(written("< '" + sign + "'"), "< '" + sign + "'\n")
            self.assertEqual(written("< ab'" + sign + "'c"), "< 'ab" + sign + "c'\n")
            self.assertEqual(written("< a / b'" + sign + "'"), "< a / 'b" + sign + "'\n")

    def test_each_quote_is_written_as_two(self):
        self.assertEqual(written("< ''''"), "< ''''\n")
        self.assertEqual(written("< 'a''b'"), "< 'a''b'\n")
        self.assertEqual(written("< ''''''''''"), "< ''''''''''\n")
        self.assertEqual(written("< a / ''''"), "< a / ''''\n")

    def test_no_quotes_where_a_string_needs_none(self):
        self.assertEqual(written("< 'ab' / 'cd'"), "< ab / cd\n")
        self.assertEqual(written("< ''a"), "< a\n")
        self.assertEqual(written("< 'a'\rb"), "< a\rb\n")


class PointTwoTest(unittest.TestCase):
    def assert_followed_back(self, *told):
        back = written(*told)
        self.assertLessEqual(len(back), 120)
        size = last(*[rules(one) for one in told], count())[1]
        for i in range(size + 1):
            made = ask(*[rules(one) for one in told], entry(i))[-1]
            self.assertEqual(ask(rules(back), entry(i)), [[0], made])
        self.assertEqual(last(rules(back), count()), [0, size])
        self.assertEqual(written(back), back)

    def test_what_is_written_is_followed_back(self):
        self.assert_followed_back("")
        self.assert_followed_back("< a << b <<< c < d", "& a << x", "& d < b")
        self.assert_followed_back("<<< z << x <<< y < a << b <<< c")
        self.assert_followed_back("= a = b << ~ c / d < ch / cccc", "& a <<< ~ '&' / ' '")
        self.assert_followed_back("< '''' < '\n' << '\t'", "< '<<< '", "< '~a/b' / ''''''''''", "& '\n' = a")
        self.assert_followed_back("=a=b=c", "&c=a", "&b<<~c")
        self.assert_followed_back(row("<") + [0] + row("<") + [1114111] + row("<<") + [57344, 55295, 160, 13])

    def test_orders_of_many_rules(self):
        source = random.Random(2)
        faults = 0
        for times in range(300):
            order = Order([])
            for i in range(6):
                before = shown(order)
                followed = follow_rules(order, row(random_rules(source)))
                if followed[1] is not None:
                    faults += 1
                    self.assertEqual(shown(followed[0]), before)
                order = followed[0]
            strings = [one.string for one in order.entries]
            self.assertEqual(len(strings), len(set(strings)))
            back = follow_rules(Order([]), written_order(order))
            self.assertEqual(back[1], None)
            self.assertEqual(shown(back[0]), shown(order))
        self.assertGreater(faults, 100)

    def test_an_order_of_1024_entries(self):
        told = [number for i in range(1024) for number in (60, 1000 + i)]
        order = follow_rules(Order([]), told)[0]
        self.assertEqual(len(order.entries), 1024)
        back = follow_rules(Order([]), written_order(order))
        self.assertEqual(back[1], None)
        self.assertEqual(shown(back[0]), shown(order))


if __name__ == "__main__":
    unittest.main()
