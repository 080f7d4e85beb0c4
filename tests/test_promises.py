"""Point 3: promise, one, may, call, put, of."""

import unittest

from tests.helper import (GREATEST, ask, begin, call, changes_nothing, drop, fair, last, leaves_as_it_was, may, of, one,
                          price, promise, put, thing)

FAIR = [begin(3), thing(2, [1, 2, 4])]
UNFAIR = [begin(3), thing(2, [2, 2, 4])]
NOTHING_FITS = [begin(3), thing(1, [2, 2, 4])]


class PromiseTest(unittest.TestCase):
    def test_from_and_to(self):
        self.assertEqual(last(*FAIR, promise([0, 0, 1])), [0, 0, 1, 1, 3])
        self.assertEqual(last(*FAIR, promise([0, 1, 0])), [0, 0, 1, 1, 1])
        self.assertEqual(last(*FAIR, promise([3, 0, 6])), [0, 0, 1, 4, 1])

    def test_alike(self):
        self.assertEqual(last(*FAIR, promise([1, 2, 4])), [1, 2, 1, 2, 1])
        self.assertEqual(last(*FAIR, promise([1000, 1000, 1000])), [1, 1000, 1, 1000, 1])
        self.assertEqual(last(*FAIR, promise([0, 0, 0])), [1, 0, 1, 0, 1])

    def test_in_lowest_terms(self):
        self.assertEqual(last(begin(2, 6, 4), promise([4, 2])), [0, 3, 1, 6, 1])
        self.assertEqual(last(begin(2, 4, 6), promise([9, 3])), [0, 2, 1, 6, 1])
        self.assertEqual(last(begin(2, 4, 6), promise([5, 7])), [0, 10, 3, 14, 3])
        self.assertEqual(last(begin(1, 1000, 1), promise([1000])), [1, 1000000, 1, 1000000, 1])

    def test_no_things(self):
        self.assertEqual(last(begin(4, 1, 2), promise([7, 3, 9, 5])), [0, 3, 2, 9, 2])
        self.assertEqual(last(begin(4, 1, 2), promise([7, 7, 7, 7])), [1, 7, 2, 7, 2])

    def test_one_that_may_come(self):
        self.assertEqual(last(begin(1, 2, 3), promise([5])), [1, 10, 3, 10, 3])

    def test_as_many_things_as_may_come_less_one(self):
        three = [begin(3), thing(2, [0, 3, 3]), thing(2, [3, 0, 3])]
        self.assertEqual(last(*three, promise([1, 5, 9])), [1, 5, 1, 5, 1])
        self.assertEqual(last(*three, promise([1, 0, 0])), [1, 1, 3, 1, 3])

    def test_the_greatest_and_the_least_may_come_from_any_corner(self):
        before = [begin(4), thing(2, [0, 4, 1, 3])]
        self.assertEqual(last(*before, promise([0, 0, 3, 0])), [0, 0, 1, 2, 1])
        self.assertEqual(last(*before, promise([0, 0, 0, 3])), [0, 0, 1, 2, 1])
        self.assertEqual(last(*before, promise([6, 0, 6, 6])), [0, 3, 1, 6, 1])
        self.assertEqual(last(*before, promise([6, 6, 0, 6])), [0, 2, 1, 6, 1])

    def test_out_of_range(self):
        for before in (FAIR, UNFAIR, NOTHING_FITS):
            for pays in ([], [1], [1, 1], [1] * 4, [1] * 6, [1001, 1, 1], [1, 1, 1001], [0, GREATEST, 0]):
                for made in (promise(pays), one(pays), may(1, 1, pays)):
                    self.assertEqual(last(*before, made), [-22])
                    self.assertTrue(changes_nothing(before, made, 3))
        for n in (1, 2, 3, 4):
            for many in range(7):
                refused = many != n
                self.assertEqual(last(begin(n), promise([1] * many))[0], -22 if refused else 1)
                self.assertEqual(last(begin(n), one([1] * many)), [-22 if refused else 1])
                self.assertEqual(last(begin(n), may(1, 1, [1] * many)), [-22 if refused else 1])

    def test_not_fair(self):
        for before in (UNFAIR, NOTHING_FITS):
            for made in (promise([1, 1, 1]), one([1000, 0, 0]), may(1, 1, [1, 1, 1]), call(0, 1)):
                self.assertEqual(last(*before, made), [-16])
                self.assertTrue(changes_nothing(before, made, 3))

    def test_fair_again(self):
        self.assertEqual(ask(*UNFAIR, promise([2, 2, 4]), price(0, 3), fair(), promise([2, 2, 4]))[2:],
                         [[-16], [2], [1], [1, 3, 1, 3, 1]])


class OneTest(unittest.TestCase):
    def test_alike_or_not(self):
        self.assertEqual(last(*FAIR, one([1, 2, 4])), [1])
        self.assertEqual(last(*FAIR, one([3, 5, 9])), [1])
        self.assertEqual(last(*FAIR, one([3, 5, 10])), [0])
        self.assertEqual(last(*FAIR, one([0, 0, 0])), [1])
        self.assertEqual(last(*FAIR, one([1000, 1000, 1000])), [1])
        self.assertEqual(last(begin(1), one([7])), [1])
        self.assertEqual(last(begin(2), one([7, 8])), [0])


class MayTest(unittest.TestCase):
    def test_between(self):
        pays = [3, 0, 6]
        told = [last(*FAIR, may(x, 10, pays)) for x in (0, 1, 20, 39, 40, 41)]
        self.assertEqual(told, [[0], [1], [1], [1], [0], [0]])

    def test_the_ends_of_fractions(self):
        pays = [5, 7]
        told = [last(begin(2, 4, 6), may(x, 3, pays)) for x in (9, 10, 11, 13, 14, 15)]
        self.assertEqual(told, [[0], [0], [1], [1], [0], [0]])
        told = [last(begin(2, 4, 6), may(x, 300, pays)) for x in (999, 1000, 1001, 1399, 1400, 1401)]
        self.assertEqual(told, [[0], [0], [1], [1], [0], [0]])

    def test_alike(self):
        pays = [1, 2, 4]
        for x, y in ((2, 1), (4, 2), (2000, 1000)):
            self.assertEqual(last(*FAIR, may(x, y, pays)), [1])
        for x, y in ((1, 1), (3, 1), (1999, 1000), (2001, 1000), (0, 1)):
            self.assertEqual(last(*FAIR, may(x, y, pays)), [0])
        self.assertEqual(last(*FAIR, may(0, 5, [0, 0, 0])), [1])
        self.assertEqual(last(*FAIR, may(1, 1000, [0, 0, 0])), [0])

    def test_the_bounds_of_y(self):
        for before, other in ((FAIR, 0), (UNFAIR, -16)):
            for y, told in ((0, -22), (1, other), (1000, other), (1001, -22), (GREATEST, -22)):
                self.assertEqual(last(*before, may(0, y, [0, 0, 1])), [told])

    def test_the_bounds_of_x(self):
        for before, other in ((FAIR, 0), (UNFAIR, -16)):
            for x, told in ((0, other), (1000000, other), (1000001, -22), (GREATEST, -22)):
                self.assertEqual(last(*before, may(x, 1, [0, 0, 1])), [told])
        self.assertEqual(last(begin(1, 1000, 1), may(1000000, 1, [1000])), [1])
        self.assertEqual(last(begin(1, 1000, 1), may(1000000, 1000, [1])), [1])

    def test_refused_it_changes_nothing(self):
        for made in (may(0, 0, [0, 0, 1]), may(0, 1001, [0, 0, 1]), may(1000001, 1, [0, 0, 1])):
            self.assertTrue(changes_nothing(FAIR, made, 3))


class CallTest(unittest.TestCase):
    def test_beyond_k(self):
        two = [begin(2), thing(10, [5, 20])]
        self.assertEqual(last(*two, call(0, 10)), [1, 10, 3, 10, 3])
        self.assertEqual(last(*two, call(0, 20)), [1, 0, 1, 0, 1])
        self.assertEqual(last(*two, call(0, 19)), [1, 1, 3, 1, 3])
        self.assertEqual(last(*two, call(0, 1000)), [1, 0, 1, 0, 1])
        self.assertEqual(last(*two, call(0, 3)), [1, 7, 1, 7, 1])

    def test_for_nothing_it_costs_as_the_thing(self):
        self.assertEqual(last(*FAIR, call(0, 0)), [1, 2, 1, 2, 1])
        self.assertEqual(last(begin(4, 3, 2), thing(700, [0, 1000, 400, 400]), call(0, 0)), [1, 700, 1, 700, 1])

    def test_from_and_to(self):
        self.assertEqual(last(*FAIR, call(0, 1)), [1, 1, 1, 1, 1])
        self.assertEqual(last(*FAIR, call(0, 2)), [0, 0, 1, 2, 3])
        self.assertEqual(last(*FAIR, call(0, 3)), [0, 0, 1, 1, 3])

    def test_of_each_thing(self):
        both = [begin(4), thing(2, [0, 4, 1, 3]), thing(2, [1, 2, 3, 2])]
        self.assertEqual(last(*both, call(0, 0)), [1, 2, 1, 2, 1])
        self.assertEqual(last(*both, call(0, 3))[1:], last(*both, promise([0, 1, 0, 0]))[1:])
        self.assertEqual(last(*both, call(1, 2))[1:], last(*both, promise([0, 0, 1, 0]))[1:])
        self.assertNotEqual(last(*both, call(0, 1)), last(*both, call(1, 1)))

    def test_none_such(self):
        for before in ([begin(3)], FAIR, UNFAIR, NOTHING_FITS, FAIR + [thing(9, [1, 2, 4])]):
            for t in (len(before) - 1, len(before), GREATEST):
                for k in (0, 1000, 1001, GREATEST):
                    self.assertEqual(last(*before, call(t, k)), [-2])
                    self.assertTrue(changes_nothing(before, call(t, k), 3))

    def test_out_of_range(self):
        for before in (FAIR, UNFAIR, NOTHING_FITS):
            for k in (1001, GREATEST):
                self.assertEqual(last(*before, call(0, k)), [-22])
                self.assertTrue(changes_nothing(before, call(0, k), 3))
        for k in (0, 1000):
            self.assertEqual(last(*UNFAIR, call(0, k)), [-16])
            self.assertEqual(last(*FAIR, call(0, k))[0], 1)


class PutTest(unittest.TestCase):
    def test_less_than_k(self):
        two = [begin(2), thing(10, [5, 20])]
        self.assertEqual(last(*two, put(0, 5)), [1, 0, 1, 0, 1])
        self.assertEqual(last(*two, put(0, 6)), [1, 2, 3, 2, 3])
        self.assertEqual(last(*two, put(0, 10)), [1, 10, 3, 10, 3])
        self.assertEqual(last(*two, put(0, 20)), [1, 10, 1, 10, 1])
        self.assertEqual(last(*two, put(0, 23)), [1, 13, 1, 13, 1])
        self.assertEqual(last(*two, put(0, 1000)), [1, 990, 1, 990, 1])

    def test_for_nothing_it_costs_nothing(self):
        self.assertEqual(last(*FAIR, put(0, 0)), [1, 0, 1, 0, 1])
        self.assertEqual(last(begin(4, 3, 2), thing(700, [0, 1000, 400, 400]), put(0, 0)), [1, 0, 1, 0, 1])
        self.assertEqual(last(begin(2), thing(0, [0, 0]), put(0, 0)), [1, 0, 1, 0, 1])

    def test_from_and_to(self):
        told = [last(*FAIR, put(0, k)) for k in (1, 2, 3, 4, 5, 1000)]
        self.assertEqual(told, [[1, 0, 1, 0, 1], [0, 0, 1, 2, 3], [0, 1, 1, 4, 3], [1, 2, 1, 2, 1], [1, 3, 1, 3, 1],
                                [1, 998, 1, 998, 1]])

    def test_money_lent_counts(self):
        # Prices of 1 by 2 and 1 by 4 of what may come.
        before = [begin(2, 3, 4), thing(8, [8, 16])]
        self.assertEqual(last(*before, put(0, 12)), [1, 2, 1, 2, 1])
        self.assertEqual(last(*before, put(0, 16)), [1, 4, 1, 4, 1])
        self.assertEqual(last(*before, put(0, 17)), [1, 19, 4, 19, 4])

    def test_one_that_may_come(self):
        self.assertEqual(last(begin(1, 2, 3), thing(4, [6]), put(0, 7)), [1, 2, 3, 2, 3])
        self.assertEqual(last(begin(1, 2, 3), thing(4, [6]), put(0, 6)), [1, 0, 1, 0, 1])

    def test_worth_as_much_whatever_comes(self):
        before = [begin(3, 1, 2), thing(3, [6, 6, 6])]
        self.assertEqual([last(*before, put(0, k)) for k in (5, 6, 7)],
                         [[1, 0, 1, 0, 1], [1, 0, 1, 0, 1], [1, 1, 2, 1, 2]])

    def test_of_each_thing(self):
        both = [begin(4), thing(2, [0, 4, 1, 3]), thing(2, [1, 2, 3, 2])]
        self.assertEqual(last(*both, put(0, 1)), last(*both, promise([1, 0, 0, 0])))
        self.assertEqual(last(*both, put(0, 2)), last(*both, promise([2, 0, 1, 0])))
        self.assertEqual(last(*both, put(1, 3)), last(*both, promise([2, 1, 0, 1])))
        self.assertNotEqual(last(*both, put(0, 2)), last(*both, put(1, 2)))
        self.assertEqual(last(*both, drop(0), put(0, 3)), last(*both, drop(0), promise([2, 1, 0, 1])))

    def test_none_such(self):
        for before in ([begin(3)], FAIR, UNFAIR, NOTHING_FITS, FAIR + [thing(9, [1, 2, 4])]):
            for t in (len(before) - 1, len(before), GREATEST):
                for k in (0, 1000, 1001, GREATEST):
                    self.assertEqual(last(*before, put(t, k)), [-2])
                    self.assertTrue(changes_nothing(before, put(t, k), 3))

    def test_out_of_range(self):
        for before in (FAIR, UNFAIR, NOTHING_FITS):
            for k in (1001, GREATEST):
                self.assertEqual(last(*before, put(0, k)), [-22])
                self.assertTrue(changes_nothing(before, put(0, k), 3))

    def test_not_fair(self):
        for before in (UNFAIR, NOTHING_FITS, [begin(3), thing(0, [0, 0, 1])], FAIR + [thing(3, [1, 2, 4])]):
            for k in (0, 1, 1000):
                self.assertEqual(last(*before, put(0, k)), [-16])
                self.assertTrue(changes_nothing(before, put(0, k), 3))

    def test_it_changes_nothing(self):
        self.assertTrue(leaves_as_it_was(FAIR, put(0, 3), 3))


class OfTest(unittest.TestCase):
    def test_from_and_to(self):
        told = [last(*FAIR, of(c)) for c in (0, 1, 2)]
        self.assertEqual(told, [[0, 0, 1, 2, 3], [0, 0, 1, 1, 1], [0, 0, 1, 1, 3]])

    def test_no_things(self):
        for n in (2, 3, 4):
            for c in range(n):
                self.assertEqual(last(begin(n, 6, 4), of(c)), [0, 0, 1, 3, 2])

    def test_one_that_may_come(self):
        self.assertEqual(last(begin(1, 6, 4), of(0)), [1, 3, 2, 3, 2])

    def test_as_many_things_as_may_come_less_one(self):
        two = [begin(2), thing(10, [5, 20])]
        self.assertEqual([last(*two, of(c)) for c in (0, 1)], [[1, 2, 3, 2, 3], [1, 1, 3, 1, 3]])
        three = [begin(3), thing(2, [0, 4, 4]), thing(3, [4, 0, 4])]
        self.assertEqual([last(*three, of(c)) for c in (0, 1, 2)], [[1, 1, 2, 1, 2], [1, 1, 4, 1, 4], [1, 1, 4, 1, 4]])

    def test_none_such(self):
        for n in (1, 2, 3, 4):
            for c in range(n):
                self.assertEqual(len(last(begin(n), of(c))), 5)
            for c in (n, n + 1, 4, 5, GREATEST):
                self.assertEqual(last(begin(n), of(c)), [-2])
                self.assertTrue(changes_nothing([begin(n)], of(c), n))

    def test_none_such_is_told_ahead_of_not_fair(self):
        for before in (UNFAIR, NOTHING_FITS):
            for c, told in ((0, -16), (1, -16), (2, -16), (3, -2), (4, -2), (GREATEST, -2)):
                self.assertEqual(last(*before, of(c)), [told])
                self.assertTrue(changes_nothing(before, of(c), 3))

    def test_begun_anew(self):
        self.assertEqual(ask(begin(4), of(3), begin(2), of(3), of(1))[3:], [[-2], [0, 0, 1, 1, 1]])

    def test_it_changes_nothing(self):
        self.assertTrue(leaves_as_it_was(FAIR, of(1), 3))


if __name__ == "__main__":
    unittest.main()
