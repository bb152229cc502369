import itertools
import unittest
from fractions import Fraction

from foldedtent.leftright import answers
from tests.helper import GREATEST, ask_tent, order, ordered, row


def ask_orders(*pairs):
    return [answer[0] for answer in ask_tent(3, 2, *[order(first, second) for first, second in pairs])]


class Order(unittest.TestCase):
    def test_whole_list(self):
        given = answers([0, 3, 2, 4, 1, 0, 2, 2, 0, 4, 2, 2, 0, 2, 2, 2, 4, 0, 0])
        self.assertEqual(given, [1, 0, 1, 0, 1, 2, 1, 1])

    def test_one_letter(self):
        found = ask_orders(*itertools.product([[0], [1], [2]], repeat=2))
        self.assertEqual(found, [1, 0, 0, 2, 1, 0, 2, 2, 1])

    def test_behind_an_odd_number_of_2(self):
        self.assertEqual(ask_orders(([2, 0], [2, 2]), ([2, 2], [2, 0]), ([2, 1], [2, 2])), [2, 0, 2])
        self.assertEqual(ask_orders(([0, 2, 0, 1], [0, 2, 0, 2]), ([2, 2, 2, 0], [2, 2, 2, 1])), [2, 2])

    def test_behind_an_even_number_of_2(self):
        self.assertEqual(ask_orders(([2, 2, 0], [2, 2, 2]), ([2, 2, 2], [2, 2, 1]), ([2, 0, 2, 1], [2, 0, 2, 2])),
                         [0, 2, 0])
        self.assertEqual(ask_orders(([0, 0], [0, 2]), ([0, 2], [0, 1])), [0, 2])

    def test_a_middle_turns_nothing(self):
        self.assertEqual(ask_orders(([1, 0], [1, 2]), ([2, 1, 0], [2, 1, 2]), ([1, 1, 2], [1, 1, 0])), [0, 2, 2])

    def test_only_the_first_difference(self):
        self.assertEqual(ask_orders(([0, 2, 2, 2], [2, 0, 0, 0]), ([2, 2, 0, 0], [2, 0, 2, 2])), [0, 0])

    def test_as_far_as_the_shorter_one_goes(self):
        self.assertEqual(ask_orders(([2, 0], [2, 0, 2, 2]), ([2, 0, 2, 2], [2, 0]), ([0], [0, 2])), [1, 1, 1])
        self.assertEqual(ask_orders(([2, 2], [2, 0, 2, 2]), ([2, 0, 2, 2], [2, 2])), [0, 2])

    def test_empty_rows(self):
        self.assertEqual(ask_orders(([], []), ([], [2]), ([0, 1], []), ([], [2] * 16)), [1, 1, 1, 1])

    def test_bounds_of_length(self):
        long = [2] * 15
        self.assertEqual(ask_orders((long + [0], long + [2]), (long + [2], long + [0])), [2, 0])
        for length in (17, 18, 20):
            self.assertEqual(ask_orders(([0] * length, [2]), ([2], [0] * length), ([0] * length, [0] * length)),
                             [-22] * 3)
            self.assertEqual(ask_orders(([], [0] * length), ([0] * length, [])), [-22] * 2)

    def test_letters_above_2(self):
        for letter in (3, 4, 255, GREATEST):
            self.assertEqual(ask_orders(([letter], [0]), ([0], [letter]), ([letter], [letter])), [-22] * 3)
            self.assertEqual(ask_orders(([0, 2, letter], [2]), ([2], [0, letter, 1]), ([letter], [])), [-22] * 3)
            self.assertEqual(ask_orders(([0] * 15 + [letter], []), ([letter] * 20, [letter] * 20)), [-22] * 2)

    def test_the_tent_is_the_same_to_it(self):
        asked = [order([2, 0, 2], [2, 0, 0]), order([0, 1], [0, 2])]
        for a, b in ((2, 1), (401, 400), (7, 5)):
            self.assertEqual(ask_tent(a, b, *asked), [[0], [0]])

    def test_all_short_rows(self):
        rows = [list(each) for k in range(4) for each in itertools.product((0, 1, 2), repeat=k)]
        for first in rows:
            found = ask_orders(*[(first, second) for second in rows])
            self.assertEqual(found, [ordered(first, second) for second in rows], first)

    def test_rows_stand_as_places_do(self):
        for a, b in ((2, 1), (3, 2), (7, 5), (401, 400)):
            places = sorted({Fraction(p, q) for q in (2, 3, 16, 101) for p in range(q + 1)})
            rows = ask_tent(a, b, *[row(each.numerator, each.denominator, 16) for each in places])
            pairs = [order(low[1:], high[1:]) for low, high in zip(rows, rows[1:])]
            self.assertNotIn([2], ask_tent(a, b, *pairs))
            self.assertNotIn([-22], ask_tent(a, b, *pairs))
