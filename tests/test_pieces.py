"""Point 2: free and pays, of some of each."""

import unittest

from tests.helper import (GREATEST, ask, begin, changes_nothing, drop, fair, free, last, leaves_as_it_was, pays, price,
                          thing)

NONE = [begin(2, 3, 5)]
ONE = [begin(2), thing(1, [2, 5])]
TWO = [begin(3, 2, 3), thing(4, [1, 5, 9]), thing(7, [0, 6, 2])]


class FreeTest(unittest.TestCase):
    def test_money_alone(self):
        for some, told in (([0, 0], [0, 0]), ([1, 0], [0, 3]), ([0, 1], [0, -3]), ([7, 7], [0, 0]), ([9, 2], [0, 21]),
                           ([2, 9], [0, -21])):
            self.assertEqual(last(*NONE, free(some)), told)

    def test_costs_nothing_and_pays_more_than_nothing(self):
        self.assertEqual(last(*ONE, free([0, 1, 1, 0])), [1, 0])
        self.assertEqual(last(begin(2), thing(2, [2, 5]), free([0, 2, 1, 0])), [1, 0])
        self.assertEqual(last(begin(2), thing(5, [2, 5]), free([5, 0, 0, 1])), [1, 0])

    def test_costs_less_than_nothing(self):
        self.assertEqual(last(*ONE, free([0, 2, 1, 0])), [1, -1])
        self.assertEqual(last(begin(2), thing(2, [3, 3]), free([0, 3, 1, 0])), [1, -1])
        self.assertEqual(last(begin(1, 2, 4), thing(4, [6]), free([3, 0, 0, 2])), [1, -2])

    def test_costs_more_than_nothing(self):
        self.assertEqual(last(*ONE, free([0, 0, 1, 0])), [0, 1])
        self.assertEqual(last(*ONE, free([1, 0, 1000, 0])), [0, 1001])

    def test_pays_less_than_nothing_under_one(self):
        self.assertEqual(last(*ONE, free([0, 3, 1, 0])), [0, -2])
        self.assertEqual(last(begin(2), thing(2, [1, 5]), free([0, 2, 1, 0])), [0, 0])
        self.assertEqual(last(begin(2), thing(2, [5, 1]), free([0, 2, 1, 0])), [0, 0])
        self.assertEqual(last(begin(4), thing(2, [9, 9, 1, 9]), free([0, 2, 1, 0])), [0, 0])

    def test_pays_nothing_whatever_comes(self):
        self.assertEqual(last(begin(2), thing(3, [3, 3]), free([0, 3, 1, 0])), [0, 0])
        self.assertEqual(last(*ONE, free([0, 0, 0, 0])), [0, 0])
        self.assertEqual(last(*ONE, free([4, 4, 9, 9])), [0, 0])
        self.assertEqual(last(begin(2), thing(0, [0, 0]), free([0, 0, 9, 1])), [0, 0])

    def test_worth_nothing_but_sold_for_something(self):
        self.assertEqual(last(begin(3), thing(1, [0, 0, 0]), free([0, 0, 0, 1])), [1, -1])
        self.assertEqual(last(begin(3), thing(1, [0, 0, 0]), free([0, 0, 1, 0])), [0, 1])

    def test_costs_nothing_as_it_stands_and_pays_something(self):
        for worths in ([1, 0, 0], [0, 1, 0], [0, 0, 1]):
            before = [begin(3), thing(0, worths)]
            self.assertEqual(last(*before, free([0, 0, 1, 0])), [1, 0])
            self.assertEqual(last(*before, free([0, 0, 0, 1])), [0, 0])

    def test_two_things_alike_at_two_prices(self):
        before = [begin(2), thing(3, [2, 5]), thing(4, [2, 5])]
        self.assertEqual(last(*before, free([0, 0, 1, 0, 0, 1])), [1, -1])
        self.assertEqual(last(*before, free([0, 0, 0, 1, 1, 0])), [0, 1])
        self.assertEqual(last(*before, free([1, 0, 1, 0, 0, 1])), [1, 0])
        self.assertEqual(last(*before, free([2, 0, 1, 0, 0, 1])), [0, 1])

    def test_as_much_as_may_be(self):
        before = [begin(4, 1000, 1000)] + [thing(1000, [1000] * 4)] * 2
        self.assertEqual(last(*before, free([1000, 0] * 3)), [0, 3000000])
        self.assertEqual(last(*before, free([0, 1000] * 3)), [0, -3000000])
        self.assertEqual(last(*before, price(1, 999), free([0, 1000, 0, 0, 1000, 0])), [1, -1000])

    def test_also_where_it_is_fair(self):
        self.assertEqual(ask(begin(2), thing(3, [2, 5]), fair(), free([0, 3, 1, 0]))[2:], [[1], [0, 0]])


class PaysTest(unittest.TestCase):
    def test_money_alone(self):
        self.assertEqual(last(*NONE, pays([2, 0])), [2, 6, 10, 10])
        self.assertEqual(last(*NONE, pays([0, 2])), [2, -6, -10, -10])
        self.assertEqual(last(*NONE, pays([5, 5])), [2, 0, 0, 0])
        self.assertEqual(last(begin(1, 3, 5), pays([9, 1])), [1, 24, 40])
        self.assertEqual(last(begin(4, 3, 5), pays([1, 2])), [4, -3, -5, -5, -5, -5])

    def test_of_one_thing(self):
        before = [begin(2, 3, 5), thing(7, [1, 4])]
        self.assertEqual(last(*before, pays([1, 0, 0, 2])), [2, -11, 3, -3])
        self.assertEqual(last(*before, pays([0, 1, 2, 0])), [2, 11, -3, 3])
        self.assertEqual(last(*before, pays([0, 0, 3, 1])), [2, 14, 2, 8])

    def test_of_two_things(self):
        self.assertEqual(last(*TWO, pays([1, 0, 0, 0, 0, 0])), [3, 2, 3, 3, 3])
        self.assertEqual(last(*TWO, pays([0, 0, 1, 0, 0, 0])), [3, 4, 1, 5, 9])
        self.assertEqual(last(*TWO, pays([0, 0, 0, 0, 1, 0])), [3, 7, 0, 6, 2])
        self.assertEqual(last(*TWO, pays([0, 1, 0, 1, 0, 1])), [3, -13, -4, -14, -14])
        self.assertEqual(last(*TWO, pays([5, 1, 2, 4, 9, 6])), [3, 21, 10, 20, 0])

    def test_at_the_price_of_now(self):
        told = ask(*TWO, price(0, 10), pays([0, 0, 1, 0, 0, 0]), drop(0), pays([0, 0, 1, 0]), drop(0), pays([1, 0]))
        self.assertEqual(told[4::2], [[3, 10, 1, 5, 9], [3, 7, 0, 6, 2], [3, 2, 3, 3, 3]])

    def test_as_much_as_may_be(self):
        before = [begin(4, 1000, 1000)] + [thing(1000, [1000] * 4)] * 2
        self.assertEqual(last(*before, pays([1000, 0] * 3)), [4] + [3000000] * 5)
        self.assertEqual(last(*before, pays([0, 1000] * 3)), [4] + [-3000000] * 5)

    def test_also_where_it_is_not_fair(self):
        self.assertEqual(ask(*ONE, fair(), pays([0, 2, 1, 0]))[2:], [[0], [2, -1, 0, 3]])


class SomeTest(unittest.TestCase):
    def test_two_numbers_for_money_and_for_each_thing(self):
        for before, due in ((NONE, 2), (ONE, 4), (TWO, 6), (TWO + [drop(0)], 4), (TWO + [drop(1), drop(0)], 2),
                            (TWO + [begin(4)], 2), (ONE + [thing(2, [1, 1])], 6), (ONE + [thing(2, [1])], 4)):
            for many in range(9):
                for made in (free([1] * many), pays([1] * many)):
                    told = last(*before, made)
                    if many == due:
                        self.assertGreater(len(told), 1)
                    else:
                        self.assertEqual(told, [-22])

    def test_none_above_a_thousand(self):
        for before, due in ((NONE, 2), (ONE, 4), (TWO, 6)):
            for at in range(due):
                for number, refused in ((1000, False), (1001, True), (GREATEST, True)):
                    some = [0] * due
                    some[at] = number
                    for made in (free(some), pays(some)):
                        self.assertEqual(last(*before, made) == [-22], refused)
            # As many bought as sold make nothing together, but are still too many.
            self.assertEqual(last(*before, free([1001] * due)), [-22])
            self.assertEqual(last(*before, pays([1001] * due)), [-22])

    def test_refused_it_changes_nothing(self):
        for before, due, n in ((NONE, 2, 2), (ONE, 4, 2), (TWO, 6, 3)):
            for some in ([], [1] * (due - 1), [1] * (due + 1), [1001] + [0] * (due - 1), [GREATEST] * 8):
                self.assertTrue(changes_nothing(before, free(some), n))
                self.assertTrue(changes_nothing(before, pays(some), n))

    def test_it_changes_nothing(self):
        for before, due, n in ((NONE, 2, 2), (ONE, 4, 2), (TWO, 6, 3)):
            self.assertTrue(leaves_as_it_was(before, free([3, 4] * (due // 2)), n))
            self.assertTrue(leaves_as_it_was(before, pays([3, 4] * (due // 2)), n))


if __name__ == "__main__":
    unittest.main()
