"""The interface: one list of whole numbers in, one out; nothing changed, nothing kept."""

import unittest

from dayahead.promises import answers
from tests.helper import (GREATEST, ask, begin, call, corners, drop, fair, flat, free, look, may, of, one, pays, price,
                          promise, put, rate, state, thing, whole, would)

LINE = [drop(0), begin(0), begin(3, 2, 3), thing(2, [1, 2, 6]), fair(), corners(), promise([1, 0, 1]),
        may(1, 2, [1, 0, 1]), one([1, 1, 1]), call(0, 2), thing(1, []), promise([1, 2, 3, 4, 5, 6]), price(0, 0),
        fair(), promise([1, 1, 1]), drop(0), drop(0), begin(1), corners()]
LATER = [state(), begin(3, 2, 3), thing(2, [1, 2, 6]), put(0, 2), whole(), of(0), free([0, 1, 1, 0]),
         pays([0, 1, 1, 0]), would(0, 3), would(0, 4), look(0), rate(), state(), price(0, 0), put(0, 2), whole(), of(2),
         of(3), free([0, 0, 1, 0]), pays([]), would(1, 0), look(1), state()]


class FormTest(unittest.TestCase):
    def test_counts_and_numbers(self):
        self.assertEqual(answers([4]), [1, -11])
        self.assertEqual(answers([0, 1, 1, 2]), [1, 0])
        self.assertEqual(answers([0, 2, 1, 2, 5]), [1, 0, 9, 2, 1, 2, 0, 1, 0, 1, 1, 2])
        self.assertEqual(answers([0, 2, 1, 2, 6, 2, 3, 4]), [1, 0, 5, 0, 3, 2, 2, 1])
        self.assertEqual(answers([0, 2, 1, 1, 1, 0, 2, 0, 3, 4, 5, 6, 2, 1, 1]),
                         [1, 0, 1, 0, 1, 0, 5, 1, 1, 1, 0, 1, 1, -16])

    def test_every_call_by_its_number(self):
        told = answers([0, 2, 1, 1, 1, 10, 2, 5, 20, 2, 0, 1, 7, 2, 5, 20, 3, 0, 10, 4, 5, 6, 2, 3, 0,
                        7, 2, 1, 2, 3, 0, 8, 2, 3, 0, 9, 0, 11])
        self.assertEqual(told, [1, 0, 1, 0, 1, 0, 1, 0, 1, 7, 1, 1, 5, 1, 2, 3, 1, 3, 5, 1, 2, 1, 2, 1,
                                1, 1, 1, 1, 5, 1, 3, 1, 3, 1])

    def test_every_later_call_by_its_number(self):
        told = answers([0, 2, 1, 1, 1, 10, 2, 5, 20, 10, 0, 10, 11, 12, 1, 13, 4, 0, 1, 1, 0, 14, 4, 0, 11, 1, 0,
                        15, 0, 20, 16, 0, 17, 18])
        self.assertEqual(told, [1, 0, 1, 0, 5, 1, 10, 3, 10, 3, 1, 1, 5, 1, 1, 3, 1, 3, 2, 0, 9, 4, 2, -1, -6, 9,
                                1, 0, 3, 10, 5, 20, 3, 0, 1, 1, 4, 2, 1, 1, 1])

    def test_a_refusal_is_its_number_alone(self):
        self.assertEqual(answers([10, 0, 10, 11, 12, 0, 13, 0, 14, 1, 5, 15, 0, 1, 16, 0, 17, 18]), [1, -11] * 9)
        self.assertEqual(answers([0, 2, 1, 1, 10, 0, 1001, 12, 2, 13, 0, 14, 3, 1, 1, 1, 15, 0, 1001, 16, 0]),
                         [1, 0, 1, -2, 1, -2, 1, -22, 1, -22, 1, -2, 1, -2])
        self.assertEqual(answers([0, 2, 1, 1, 1, 0, 2, 1, 1, 10, 0, 1001, 10, 0, 1, 11, 12, 1, 15, 0, 1001]),
                         [1, 0, 1, 0, 1, -22, 1, -16, 1, -16, 1, -16, 1, -22])

    def test_a_line_of_the_later_calls(self):
        self.assertEqual(ask(*LATER), [[-11], [0], [0], [0, 0, 1, 2, 5], [0], [0, 0, 1, 2, 5], [0, 0],
                                       [3, 0, -2, -1, 3], [1], [0], [2, 1, 2, 6], [0, 2, 3], [3, 1, 2, 3], [2], [-16],
                                       [-16], [-16], [-2], [1, 0], [-22], [-2], [-2], [3, 1, 2, 3]])

    def test_a_line_of_all_calls(self):
        self.assertEqual(ask(*LINE), [[-11], [-22], [0], [0], [1],
                                      [2, 2, 5, 0, 1, 4, 15, 0, 1, 1, 2, 1, 6], [0, 1, 6, 2, 3], [1], [1],
                                      [0, 2, 3, 16, 15], [-22], [-22], [2], [0], [-16], [0], [-2], [0], [1, 1, 1]])

    def test_rows_of_none_to_six_are_read_whole(self):
        for many in range(7):
            row = [5] * many
            told = ask(begin(2), thing(1, row), fair(), promise(row), fair(), may(1, 1, row), fair(), one(row), fair())
            self.assertEqual(told[4], [1] if many != 2 else [0])
            self.assertEqual(len(told), 9)

    def test_some_of_none_to_eight_are_read_whole(self):
        for many in range(9):
            some = [5] * many
            told = ask(begin(2), thing(1, [0, 3]), free(some), state(), pays(some), state())
            self.assertEqual(told[2:], [[0, 0] if many == 4 else [-22], [2, 1, 1, 1],
                                        [2, 0, 0, 0] if many == 4 else [-22], [2, 1, 1, 1]])

    def test_numbers_as_great_as_may_be(self):
        g = GREATEST
        told = ask(begin(g, g, g), begin(2), begin(g, g, g), thing(g, [g] * 6), thing(1, [1, 1]), drop(g), price(g, g),
                   price(0, g), promise([g] * 6), may(g, g, [g] * 6), one([g] * 2), call(g, g), call(0, g), fair())
        self.assertEqual(told, [[-22], [0], [-22], [-22], [0], [-2], [-2], [-22], [-22], [-22], [-22], [-2], [-22],
                                [1]])
        told = ask(begin(2), thing(1, [0, 2]), put(g, g), put(0, g), of(g), free([g] * 8), free([g] * 4), pays([g] * 8),
                   pays([g] * 4), would(g, g), would(0, g), look(g), state())
        self.assertEqual(told[2:], [[-2], [-22], [-2], [-22], [-22], [-22], [-22], [-2], [-22], [-2], [2, 1, 1, 1]])

    def test_whole_numbers_alone(self):
        told = answers(flat(LINE + LATER))
        self.assertTrue(isinstance(told, list))
        self.assertEqual({number.__class__ for number in told}, {int})

    def test_four_hundred_calls(self):
        row = [1000, 999, 998, 997, 0, 0]
        calls = [begin(4, 1000, 999), thing(500, row[:4]), thing(501, [1000, 0, 1, 7])] + [promise(row)] * 397
        self.assertEqual(ask(*calls)[3:], [[-22]] * 397)
        calls = [begin(4)] + [thing(1, [0, 0, 2, 2]), drop(0), corners()] * 133
        told = ask(*calls)
        self.assertEqual(len(told), 400)
        self.assertEqual(told[3], [4, 1, 1] + [0, 1, 0, 1, 0, 1, 0, 1, 1, 1, 0, 1, 0, 1, 0, 1, 0, 1, 1, 1]
                         + [0, 1, 0, 1, 0, 1, 0, 1, 1, 1])
        calls = [begin(4, 1000, 999), thing(500, row[:4])] + [thing(501, [1000, 0, 1, 7])] + [pays([1000, 0] * 3)] * 397
        told = ask(*calls)
        self.assertEqual(told[3:], [[4, 2001000, 2999000, 1998000, 1998000, 2003000]] * 397)


class KeepsNothingTest(unittest.TestCase):
    def test_what_is_handed_in_stays_as_it_was(self):
        for calls in (flat(LINE), flat(LATER), [4], [0, 2, 1, 1, 1, 1, 2, 0, 3, 3, 0, 2, 2, 0]):
            copy = list(calls)
            answers(calls)
            self.assertEqual(calls, copy)

    def test_asked_twice_it_answers_the_same(self):
        calls = flat(LINE + LATER)
        told = answers(calls)
        self.assertEqual(answers(calls), told)
        self.assertEqual(answers([4]), [1, -11])
        self.assertEqual(answers(calls), told)

    def test_what_is_answered_is_not_kept_either(self):
        calls = flat(LINE + LATER)
        told = answers(calls)
        copy = list(told)
        told.clear()
        self.assertEqual(answers(calls), copy)


if __name__ == "__main__":
    unittest.main()
