"""Point 1: begin, thing, drop, price, look, rate, state; and -11 before a begin that answers 0."""

import unittest

from tests.helper import (GREATEST, ask, begin, call, changes_nothing, corners, drop, fair, free, last,
                          leaves_as_it_was, look, may, of, one, pays, price, promise, put, rate, state, thing, whole,
                          would)


class NotBegunTest(unittest.TestCase):
    OTHERS = [thing(1, [1]), thing(1001, []), drop(0), price(0, 1), price(GREATEST, GREATEST), fair(), corners(),
              promise([1]), promise([]), may(1, 1, [1]), may(0, 0, []), one([1]), one([1001]), call(0, 1),
              call(GREATEST, GREATEST), put(0, 1), put(0, 1001), put(GREATEST, GREATEST), whole(), of(0), of(GREATEST),
              free([]), free([0, 0]), free([1001, 0]), free([GREATEST] * 8), pays([]), pays([0, 0]), pays([1001, 0]),
              pays([GREATEST] * 8), would(0, 1), would(0, 1001), would(GREATEST, GREATEST), look(0), look(GREATEST),
              rate(), state()]

    def test_all_others_answer_not_begun(self):
        self.assertEqual(ask(*self.OTHERS), [[-11]] * len(self.OTHERS))

    def test_a_refused_begin_begins_nothing(self):
        for refused in (begin(0), begin(5), begin(2, 0, 1), begin(2, 1, 1001)):
            told = ask(refused, *self.OTHERS)
            self.assertEqual(told, [[-22]] + [[-11]] * len(self.OTHERS))

    def test_a_begin_behind_them_begins(self):
        self.assertEqual(ask(thing(1, [1]), begin(1), drop(0), thing(1, [1])), [[-11], [0], [-2], [0]])


class BeginTest(unittest.TestCase):
    def test_how_many_may_come(self):
        for n in (1, 2, 3, 4):
            self.assertEqual(ask(begin(n)), [[0]])
        for n in (0, 5, 6, GREATEST):
            self.assertEqual(ask(begin(n)), [[-22]])

    def test_price_of_money_lent(self):
        for p in (1, 2, 999, 1000):
            self.assertEqual(ask(begin(2, p, 1)), [[0]])
        for p in (0, 1001, GREATEST):
            self.assertEqual(ask(begin(2, p, 1)), [[-22]])

    def test_what_comes_back(self):
        for b in (1, 2, 999, 1000):
            self.assertEqual(ask(begin(2, 1, b)), [[0]])
        for b in (0, 1001, GREATEST):
            self.assertEqual(ask(begin(2, 1, b)), [[-22]])

    def test_begun_anew_there_are_no_things(self):
        told = ask(begin(2), thing(1, [0, 2]), thing(1, [0, 2]), begin(3, 2, 5), drop(0), price(0, 1), call(0, 1),
                   corners(), thing(1, [0, 1, 2]), thing(1, [1, 1, 1]), thing(1, [1, 1, 1]))
        self.assertEqual(told[3:7], [[0], [-2], [-2], [-2]])
        self.assertEqual(told[7], [3, 2, 5, 0, 1, 0, 1, 0, 1, 2, 5, 0, 1, 0, 1, 0, 1, 2, 5])
        self.assertEqual(told[8:], [[0], [1], [-28]])

    def test_refused_it_changes_nothing(self):
        before = [begin(3, 2, 5), thing(1, [1, 2, 4])]
        for refused in (begin(0), begin(5), begin(2, 0, 3), begin(2, 1001, 3), begin(2, 3, 0), begin(2, 3, 1001)):
            self.assertTrue(changes_nothing(before, refused, 3))


class ThingTest(unittest.TestCase):
    def test_it_answers_its_number(self):
        self.assertEqual(ask(begin(2), thing(1, [0, 2]), thing(3, [4, 5])), [[0], [0], [1]])

    def test_its_price(self):
        for p in (0, 1, 1000):
            self.assertEqual(last(begin(2), thing(p, [1, 1])), [0])
        for p in (1001, GREATEST):
            self.assertEqual(last(begin(2), thing(p, [1, 1])), [-22])

    def test_its_worths(self):
        for worths in ([0, 0], [1000, 1000], [0, 1000]):
            self.assertEqual(last(begin(2), thing(1, worths)), [0])
        for worths in ([1001, 0], [0, 1001], [GREATEST, GREATEST]):
            self.assertEqual(last(begin(2), thing(1, worths)), [-22])

    def test_as_many_worths_as_may_come(self):
        for n in (1, 2, 3, 4):
            for many in range(7):
                told = last(begin(n), thing(1, [1] * many))
                self.assertEqual(told, [0] if many == n else [-22])

    def test_two_are_the_most(self):
        two = [begin(2), thing(1, [0, 2]), thing(1, [2, 0])]
        self.assertEqual(last(*two, thing(1, [1, 1])), [-28])
        self.assertEqual(ask(*two, drop(0), thing(1, [1, 1]))[3:], [[1], [1]])

    def test_out_of_range_is_told_ahead_of_too_many(self):
        two = [begin(2), thing(1, [0, 2]), thing(1, [2, 0])]
        for refused in (thing(1001, [1, 1]), thing(1, [1, 1001]), thing(1, [1]), thing(1, []), thing(1, [1, 1, 1])):
            self.assertEqual(last(*two, refused), [-22])

    def test_refused_it_changes_nothing(self):
        before = [begin(2), thing(1, [0, 2])]
        for refused in (thing(1001, [1, 1]), thing(1, [1, 1001]), thing(1, [1]), thing(1, [])):
            self.assertTrue(changes_nothing(before, refused, 2))
        self.assertTrue(changes_nothing(before + [thing(3, [3, 3])], thing(5, [5, 5]), 2))


class DropTest(unittest.TestCase):
    def test_it_answers_how_many_are_left(self):
        two = [begin(2), thing(1, [0, 2]), thing(3, [2, 4])]
        self.assertEqual(ask(*two, drop(0), drop(0), drop(0))[3:], [[1], [0], [-2]])
        self.assertEqual(ask(*two, drop(1), drop(0))[3:], [[1], [0]])

    def test_one_behind_has_one_number_less(self):
        two = [begin(2), thing(1, [0, 2]), thing(3, [2, 4])]
        self.assertEqual(ask(*two, drop(0), price(0, 7), price(1, 7))[3:], [[1], [3], [-2]])
        self.assertEqual(ask(*two, drop(1), price(0, 7), price(1, 7))[3:], [[1], [1], [-2]])

    def test_what_is_gone_counts_no_more(self):
        dear = [begin(2), thing(1, [0, 2]), thing(9, [0, 2])]
        self.assertEqual(ask(*dear, fair(), drop(1), fair())[3:], [[0], [1], [1]])
        self.assertEqual(ask(*dear, drop(0), fair(), price(0, 1), fair())[3:], [[1], [0], [9], [1]])

    def test_there_is_none_such(self):
        for before in ([begin(2)], [begin(2), thing(1, [0, 2])], [begin(2), thing(1, [0, 2]), thing(3, [2, 4])]):
            for t in (len(before) - 1, len(before), GREATEST):
                self.assertEqual(last(*before, drop(t)), [-2])
                self.assertTrue(changes_nothing(before, drop(t), 2))


class PriceTest(unittest.TestCase):
    def test_it_answers_what_it_was(self):
        two = [begin(2), thing(1, [0, 2]), thing(3, [2, 4])]
        told = ask(*two, price(0, 1000), price(1, 0), price(0, 5), price(1, 6))
        self.assertEqual(told[3:], [[1], [3], [1000], [0]])

    def test_it_counts_from_then_on(self):
        told = ask(begin(2), thing(9, [0, 2]), fair(), price(0, 1), fair(), corners())
        self.assertEqual(told[2:], [[0], [9], [1], [1, 1, 2, 1, 2]])

    def test_refusals(self):
        two = [begin(2), thing(1, [0, 2]), thing(3, [2, 4])]
        for t in (0, 1):
            for p in (1001, GREATEST):
                self.assertEqual(last(*two, price(t, p)), [-22])
                self.assertTrue(changes_nothing(two, price(t, p), 2))
        for t in (2, 3, GREATEST):
            for p in (0, 1000, 1001, GREATEST):
                self.assertEqual(last(*two, price(t, p)), [-2])
                self.assertTrue(changes_nothing(two, price(t, p), 2))

    def test_there_is_none_such_at_any_price_before_there_are_things(self):
        for p in (0, 1001):
            self.assertEqual(last(begin(2), price(0, p)), [-2])


class LookTest(unittest.TestCase):
    def test_its_price_then_its_worths(self):
        two = [begin(3), thing(7, [1, 0, 1000]), thing(1000, [4, 5, 6])]
        self.assertEqual(ask(*two, look(0), look(1))[3:], [[7, 1, 0, 1000], [1000, 4, 5, 6]])
        self.assertEqual(last(begin(1), thing(0, [0]), look(0)), [0, 0])
        self.assertEqual(last(begin(4), thing(2, [9, 8, 7, 6]), look(0)), [2, 9, 8, 7, 6])

    def test_the_price_that_it_has_now(self):
        told = ask(begin(2), thing(7, [1, 2]), price(0, 9), look(0), price(0, 1001), look(0), price(0, 0), look(0))
        self.assertEqual(told[3:], [[9, 1, 2], [-22], [9, 1, 2], [9], [0, 1, 2]])

    def test_one_behind_what_is_gone(self):
        two = [begin(2), thing(7, [1, 2]), thing(8, [3, 4])]
        self.assertEqual(ask(*two, drop(0), look(0), look(1))[4:], [[8, 3, 4], [-2]])
        self.assertEqual(ask(*two, drop(1), look(0), look(1))[4:], [[7, 1, 2], [-2]])
        self.assertEqual(ask(*two, drop(0), thing(9, [5, 6]), look(0), look(1))[5:], [[8, 3, 4], [9, 5, 6]])

    def test_also_where_it_is_not_fair(self):
        self.assertEqual(ask(begin(2), thing(0, [1, 2]), fair(), look(0))[2:], [[0], [0, 1, 2]])

    def test_there_is_none_such(self):
        for before in ([begin(2)], [begin(2), thing(1, [0, 2])], [begin(2), thing(1, [0, 2]), thing(3, [2, 4])]):
            for t in (len(before) - 1, len(before), GREATEST):
                self.assertEqual(last(*before, look(t)), [-2])
                self.assertTrue(changes_nothing(before, look(t), 2))

    def test_it_changes_nothing(self):
        self.assertTrue(leaves_as_it_was([begin(2), thing(1, [0, 2])], look(0), 2))


class RateTest(unittest.TestCase):
    def test_the_price_by_what_comes_back(self):
        for p, b, told in ((1, 1, [0, 1, 1]), (2, 3, [0, 2, 3]), (3, 2, [0, 3, 2]), (7, 1, [0, 7, 1])):
            self.assertEqual(last(begin(2, p, b), rate()), told)

    def test_in_lowest_terms(self):
        for p, b, told in ((6, 4, [0, 3, 2]), (4, 6, [0, 2, 3]), (1000, 1000, [0, 1, 1]), (1000, 1, [0, 1000, 1]),
                           (1, 1000, [0, 1, 1000]), (1000, 250, [0, 4, 1]), (12, 18, [0, 2, 3])):
            self.assertEqual(last(begin(3, p, b), rate()), told)

    def test_things_do_not_count(self):
        self.assertEqual(last(begin(2, 9, 10), thing(0, [1, 1]), rate()), [0, 9, 10])
        self.assertTrue(leaves_as_it_was([begin(2), thing(1, [0, 2])], rate(), 2))

    def test_begun_anew(self):
        self.assertEqual(ask(begin(2, 9, 10), begin(1, 3, 6), rate(), begin(1, 0, 6), rate())[2:],
                         [[0, 1, 2], [-22], [0, 1, 2]])


class StateTest(unittest.TestCase):
    def test_what_was_told_at_begin(self):
        for n in (1, 2, 3, 4):
            self.assertEqual(last(begin(n, 6, 4), state()), [n, 0, 6, 4])
        self.assertEqual(last(begin(2, 1000, 1), state()), [2, 0, 1000, 1])
        self.assertEqual(last(begin(2, 1, 1000), state()), [2, 0, 1, 1000])

    def test_how_many_things(self):
        told = ask(begin(3, 2, 5), thing(1, [1, 1, 1]), state(), thing(1, [1, 1, 1]), state(), thing(1, [1, 1, 1]),
                   state(), drop(0), state(), drop(0), state(), drop(0), state())
        self.assertEqual(told[2::2], [[3, 1, 2, 5], [3, 2, 2, 5], [3, 2, 2, 5], [3, 1, 2, 5], [3, 0, 2, 5],
                                      [3, 0, 2, 5]])

    def test_begun_anew(self):
        told = ask(begin(3, 2, 5), thing(1, [1, 1, 1]), begin(4, 7, 8), state(), begin(5, 1, 1), state())
        self.assertEqual(told[3:], [[4, 0, 7, 8], [-22], [4, 0, 7, 8]])

    def test_it_changes_nothing(self):
        self.assertTrue(leaves_as_it_was([begin(2), thing(1, [0, 2])], state(), 2))


if __name__ == "__main__":
    unittest.main()
