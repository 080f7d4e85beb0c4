"""Point 2: fair, would, corners and their order, whole."""

import unittest

from tests.helper import (GREATEST, ask, begin, changes_nothing, corners, drop, fair, last, leaves_as_it_was, look,
                          price, thing, whole, would)


class FairTest(unittest.TestCase):
    def fair(self, *calls):
        return last(*calls, fair())

    def test_no_things(self):
        for n in (1, 2, 3, 4):
            self.assertEqual(self.fair(begin(n, 3, 7)), [1])

    def test_a_thing_between_the_bounds(self):
        told = [self.fair(begin(2), thing(p, [2, 5])) for p in (1, 2, 3, 4, 5, 6)]
        self.assertEqual(told, [[0], [0], [1], [1], [0], [0]])

    def test_one_that_may_come(self):
        self.assertEqual(self.fair(begin(1, 2, 4), thing(3, [6])), [1])
        self.assertEqual(self.fair(begin(1, 2, 4), thing(4, [6])), [0])
        self.assertEqual(self.fair(begin(1, 2, 4), thing(2, [6])), [0])
        self.assertEqual(self.fair(begin(1, 2, 4), thing(0, [0])), [1])

    def test_worth_as_much_whatever_comes(self):
        self.assertEqual(self.fair(begin(3, 2, 4), thing(3, [6, 6, 6])), [1])
        self.assertEqual(self.fair(begin(3, 2, 4), thing(4, [6, 6, 6])), [0])

    def test_costs_nothing_and_pays_something(self):
        self.assertEqual(self.fair(begin(3), thing(0, [0, 0, 1])), [0])
        self.assertEqual(self.fair(begin(3), thing(0, [1, 1, 1])), [0])
        self.assertEqual(self.fair(begin(3), thing(0, [0, 0, 0])), [1])

    def test_costs_something_and_pays_nothing(self):
        self.assertEqual(self.fair(begin(3), thing(1, [0, 0, 0])), [0])

    def test_two_things_alike(self):
        self.assertEqual(self.fair(begin(2), thing(3, [2, 5]), thing(3, [2, 5])), [1])
        self.assertEqual(self.fair(begin(2), thing(3, [2, 5]), thing(4, [2, 5])), [0])
        self.assertEqual(last(begin(2), thing(3, [2, 5]), thing(4, [2, 5]), price(1, 3), fair()), [1])

    def test_as_many_things_as_may_come_less_one(self):
        self.assertEqual(self.fair(begin(3), thing(2, [0, 3, 3]), thing(2, [3, 0, 3])), [1])
        self.assertEqual(self.fair(begin(3), thing(3, [0, 3, 3]), thing(2, [3, 0, 3])), [0])
        self.assertEqual(self.fair(begin(3), thing(1, [0, 3, 3]), thing(1, [3, 0, 3])), [0])

    def test_each_fits_but_not_both(self):
        self.assertEqual(self.fair(begin(4), thing(1, [0, 0, 2, 2]), thing(1, [0, 0, 2, 3])), [0])
        self.assertEqual(self.fair(begin(4), thing(2, [0, 0, 4, 4]), thing(1, [0, 0, 2, 3])), [0])
        self.assertEqual(self.fair(begin(4), thing(2, [0, 0, 4, 4]), thing(2, [0, 0, 3, 5])), [1])


class CornersTest(unittest.TestCase):
    def corners(self, *calls):
        return last(*calls, corners())

    def test_no_things(self):
        self.assertEqual(self.corners(begin(1, 6, 4)), [1, 3, 2])
        self.assertEqual(self.corners(begin(2, 6, 4)), [2, 3, 2, 0, 1, 0, 1, 3, 2])
        self.assertEqual(self.corners(begin(4)), [4] + [1, 1, 0, 1, 0, 1, 0, 1] + [0, 1, 1, 1, 0, 1, 0, 1]
                         + [0, 1, 0, 1, 1, 1, 0, 1] + [0, 1, 0, 1, 0, 1, 1, 1])

    def test_in_lowest_terms(self):
        self.assertEqual(self.corners(begin(1, 1000, 1000)), [1, 1, 1])
        self.assertEqual(self.corners(begin(1, 1000, 1)), [1, 1000, 1])
        self.assertEqual(self.corners(begin(1, 1, 1000)), [1, 1, 1000])
        self.assertEqual(self.corners(begin(1, 6, 9)), [1, 2, 3])
        self.assertEqual(self.corners(begin(2, 10, 20), thing(3, [4, 8])), [1, 1, 4, 1, 4])

    def test_one_that_may_come(self):
        self.assertEqual(self.corners(begin(1, 2, 4), thing(3, [6]), thing(0, [0])), [1, 1, 2])
        self.assertEqual(self.corners(begin(1, 2, 4), thing(4, [6])), [0])

    def test_as_many_things_as_may_come_less_one(self):
        self.assertEqual(self.corners(begin(2), thing(3, [2, 5])), [1, 2, 3, 1, 3])
        told = self.corners(begin(3), thing(2, [0, 3, 3]), thing(2, [3, 0, 3]))
        self.assertEqual(told, [1, 1, 3, 1, 3, 1, 3])

    def test_a_price_of_nothing(self):
        self.assertEqual(self.corners(begin(2), thing(2, [2, 5])), [1, 1, 1, 0, 1])
        self.assertEqual(self.corners(begin(2), thing(5, [2, 5])), [1, 0, 1, 1, 1])
        self.assertEqual(self.corners(begin(3), thing(0, [0, 0, 1])), [2, 1, 1, 0, 1, 0, 1, 0, 1, 1, 1, 0, 1])

    def test_nothing_fits(self):
        self.assertEqual(self.corners(begin(2), thing(1, [2, 5])), [0])
        self.assertEqual(self.corners(begin(2), thing(6, [2, 5])), [0])
        self.assertEqual(self.corners(begin(2), thing(3, [2, 5]), thing(4, [2, 5])), [0])
        self.assertEqual(self.corners(begin(2), thing(0, [1, 1])), [0])
        self.assertEqual(self.corners(begin(4), thing(1, [0, 0, 0, 0])), [0])

    def test_worth_as_much_whatever_comes(self):
        self.assertEqual(self.corners(begin(2), thing(3, [3, 3])), self.corners(begin(2)))

    def test_two_things_alike(self):
        told = self.corners(begin(3), thing(3, [2, 5, 3]), thing(3, [2, 5, 3]))
        self.assertEqual(told, self.corners(begin(3), thing(3, [2, 5, 3])))

    def test_fewer_prices_that_are_not_nothing_first(self):
        told = self.corners(begin(3), thing(2, [1, 3, 2]))
        self.assertEqual(told, [2, 0, 1, 0, 1, 1, 1, 1, 2, 1, 2, 0, 1])
        told = self.corners(begin(3), thing(2, [1, 2, 3]))
        self.assertEqual(told, [2, 0, 1, 1, 1, 0, 1, 1, 2, 0, 1, 1, 2])

    def test_of_as_many_the_least_that_is_nothing_in_one_alone_comes_later(self):
        told = self.corners(begin(4), thing(2, [0, 4, 1, 3]))
        by_hand = [[(1, 2), (1, 2), (0, 1), (0, 1)], [(1, 3), (0, 1), (0, 1), (2, 3)],
                   [(0, 1), (1, 3), (2, 3), (0, 1)], [(0, 1), (0, 1), (1, 2), (1, 2)]]
        self.assertEqual(told, [4] + [number for corner in by_hand for pair in corner for number in pair])

    def test_of_three_that_are_not_nothing(self):
        told = self.corners(begin(4), thing(3, [0, 6, 0, 6]), thing(5, [0, 0, 12, 12]))
        by_hand = [[(1, 12), (1, 2), (5, 12), (0, 1)], [(1, 2), (1, 12), (0, 1), (5, 12)]]
        self.assertEqual(told[0], 2)
        self.assertEqual(told[1:], [number for corner in by_hand for pair in corner for number in pair])

    def test_two_before_three(self):
        told = self.corners(begin(4), thing(2, [0, 4, 0, 1]), thing(2, [4, 0, 0, 1]))
        by_hand = [[(1, 2), (1, 2), (0, 1), (0, 1)]]
        self.assertEqual(told, [1] + [number for corner in by_hand for pair in corner for number in pair])
        told = self.corners(begin(4), thing(1, [2, 0, 0, 1]), thing(1, [0, 0, 2, 1]))
        by_hand = [[(0, 1), (0, 1), (0, 1), (1, 1)], [(1, 2), (0, 1), (1, 2), (0, 1)]]
        self.assertEqual(told, [2] + [number for corner in by_hand for pair in corner for number in pair])


class WouldTest(unittest.TestCase):
    def would(self, before, prices, t=0):
        return [last(*before, would(t, p)) for p in prices]

    def test_at_each_price_as_fair_tells_then(self):
        for p in (0, 1, 3, 6, 1000):
            told = self.would([begin(2), thing(p, [2, 5])], (0, 1, 2, 3, 4, 5, 6, 1000))
            self.assertEqual(told, [[0], [0], [0], [1], [1], [0], [0], [0]])

    def test_its_price_stays(self):
        told = ask(begin(2), thing(3, [2, 5]), would(0, 9), fair(), look(0), would(0, 4), corners(), price(0, 9),
                   would(0, 3), fair(), look(0))
        self.assertEqual(told[2:], [[0], [1], [3, 2, 5], [1], [1, 2, 3, 1, 3], [3], [1], [0], [9, 2, 5]])

    def test_of_each_thing(self):
        alike = [begin(2), thing(3, [2, 5]), thing(4, [2, 5])]
        self.assertEqual(self.would(alike, (3, 4, 5)), [[0], [1], [0]])
        self.assertEqual(self.would(alike, (2, 3, 4), 1), [[0], [1], [0]])
        three = [begin(3), thing(9, [0, 3, 3]), thing(2, [3, 0, 3])]
        self.assertEqual(self.would(three, (0, 1, 2, 3)), [[0], [0], [1], [0]])
        self.assertEqual(self.would(three, (0, 1, 2, 3), 1), [[0], [0], [0], [0]])

    def test_one_behind_what_is_gone(self):
        told = ask(begin(2), thing(9, [1, 1]), thing(3, [2, 5]), would(1, 4), drop(0), would(0, 4), would(0, 5),
                   would(1, 4))
        self.assertEqual(told[3:], [[0], [1], [1], [0], [-2]])

    def test_one_that_may_come(self):
        self.assertEqual(self.would([begin(1, 2, 4), thing(9, [6])], (2, 3, 4)), [[0], [1], [0]])

    def test_worth_as_much_whatever_comes(self):
        self.assertEqual(self.would([begin(3, 2, 4), thing(9, [6, 6, 6])], (2, 3, 4)), [[0], [1], [0]])

    def test_costs_nothing_and_pays_something(self):
        self.assertEqual(self.would([begin(3), thing(1, [0, 0, 2])], (0, 1, 2)), [[0], [1], [0]])
        self.assertEqual(self.would([begin(3), thing(1, [0, 0, 0])], (0, 1)), [[1], [0]])

    def test_the_bounds_of_the_price(self):
        before = [begin(2, 1000, 1), thing(1, [1, 1])]
        self.assertEqual(self.would(before, (999, 1000, 1001, GREATEST)), [[0], [1], [-22], [-22]])
        self.assertEqual(self.would([begin(2), thing(1000, [0, 0])], (0, 1000, 1001)), [[1], [0], [-22]])

    def test_there_is_none_such(self):
        for before in ([begin(2)], [begin(2), thing(1, [0, 2])], [begin(2), thing(1, [0, 2]), thing(9, [2, 4])]):
            for t in (len(before) - 1, len(before), GREATEST):
                for p in (0, 1000, 1001, GREATEST):
                    self.assertEqual(last(*before, would(t, p)), [-2])
                    self.assertTrue(changes_nothing(before, would(t, p), 2))

    def test_it_changes_nothing(self):
        for before in ([begin(2), thing(3, [2, 5])], [begin(2), thing(9, [2, 5]), thing(3, [2, 5])]):
            for p in (0, 3, 4, 9, 1000, 1001, GREATEST):
                self.assertTrue(leaves_as_it_was(before, would(0, p), 2))
        self.assertTrue(leaves_as_it_was([begin(2), thing(9, [2, 5]), thing(3, [2, 5])], would(1, 9), 2))


class WholeTest(unittest.TestCase):
    def whole(self, *calls):
        return last(*calls, whole())

    def test_no_things(self):
        self.assertEqual([self.whole(begin(n, 3, 7)) for n in (1, 2, 3, 4)], [[1], [0], [0], [0]])

    def test_one_that_may_come(self):
        self.assertEqual(self.whole(begin(1, 2, 4), thing(3, [6]), thing(0, [0])), [1])

    def test_as_many_things_as_may_come_less_one(self):
        self.assertEqual(self.whole(begin(2), thing(3, [2, 5])), [1])
        self.assertEqual(self.whole(begin(3), thing(2, [0, 3, 3]), thing(2, [3, 0, 3])), [1])
        self.assertEqual(self.whole(begin(3), thing(2, [0, 3, 3])), [0])
        self.assertEqual(self.whole(begin(4), thing(2, [0, 4, 1, 3]), thing(2, [1, 2, 3, 2])), [0])

    def test_worth_as_much_whatever_comes(self):
        self.assertEqual(self.whole(begin(2), thing(3, [3, 3])), [0])

    def test_two_things_alike(self):
        self.assertEqual(self.whole(begin(2), thing(3, [2, 5]), thing(3, [2, 5])), [1])
        self.assertEqual(self.whole(begin(3), thing(3, [2, 5, 3]), thing(3, [2, 5, 3])), [0])
        self.assertEqual(self.whole(begin(2), thing(3, [2, 5]), thing(4, [2, 5])), [-16])

    def test_a_corner_with_a_price_of_nothing(self):
        self.assertEqual(self.whole(begin(3), thing(2, [1, 2, 4])), [0])
        # There's just one corner, but it's 0 for one that may come.
        for p in (2, 5):
            self.assertEqual(self.whole(begin(2), thing(p, [2, 5])), [-16])

    def test_not_fair(self):
        for before in ([begin(2), thing(1, [2, 5])], [begin(2), thing(6, [2, 5])], [begin(3), thing(0, [0, 0, 1])],
                       [begin(2), thing(2, [2, 5])], [begin(1), thing(1, [0])]):
            n = before[0][1]
            self.assertEqual(last(*before, whole()), [-16])
            self.assertTrue(changes_nothing(before, whole(), n))

    def test_it_changes_nothing(self):
        self.assertTrue(leaves_as_it_was([begin(2), thing(3, [2, 5])], whole(), 2))

    def test_it_is_told_as_things_are_now(self):
        told = ask(begin(2), whole(), thing(3, [2, 5]), whole(), price(0, 5), whole(), drop(0), whole())
        self.assertEqual(told[1::2], [[0], [1], [-16], [0]])


if __name__ == "__main__":
    unittest.main()
