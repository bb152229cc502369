import unittest

from foldedtent.leftright import answers
from tests.helper import (GREATEST, ask, begin, comes, count, fits, holds, inner, laps, lead, order, put, round_of,
                          rounds, row, state)

OTHERS = [put(1, 3), row(1, 3, 4), lead(3), order([0], [2]), fits([0, 2]), count(2), holds([0, 2]), laps(3),
          comes([2]), rounds(2), round_of(2, 0), inner(), state()]
NOT_AS_TOLD_OTHERS = [put(1, 0), row(2, 1, 17), lead(0), order([3], []), fits([]), count(10), holds([]), laps(0),
                      comes([1]), rounds(10), round_of(0, GREATEST)]


class Begin(unittest.TestCase):
    def test_whole_list(self):
        self.assertEqual(answers([0, 3, 2]), [1, 0])
        self.assertEqual(answers([0, 3, 2, 0, 2, 1, 0, 2, 2]), [1, 0, 1, 0, 1, -22])

    def test_bounds_of_b(self):
        self.assertEqual(ask(begin(0, 0), begin(1, 0)), [[-22], [-22]])
        self.assertEqual(ask(begin(2, 1), begin(600, 400), begin(601, 401)), [[0], [0], [-22]])
        self.assertEqual(ask(begin(600, GREATEST), begin(GREATEST, 0)), [[-22], [-22]])

    def test_no_more_than_1(self):
        self.assertEqual(ask(begin(1, 1), begin(399, 400), begin(400, 400), begin(401, 400)), [[-22]] * 3 + [[0]])
        self.assertEqual(ask(begin(0, 1), begin(0, 400), begin(200, 200)), [[-22]] * 3)

    def test_at_most_2(self):
        self.assertEqual(ask(begin(2, 1), begin(3, 1), begin(4, 1)), [[0], [-22], [-22]])
        self.assertEqual(ask(begin(799, 400), begin(800, 400), begin(801, 400)), [[0], [0], [-22]])

    def test_great_numbers(self):
        self.assertEqual(ask(begin(GREATEST, 1), begin(GREATEST, 400), begin(GREATEST, GREATEST)), [[-22]] * 3)
        self.assertEqual(ask(begin(GREATEST, 2147483648), begin(3, GREATEST)), [[-22]] * 2)

    def test_each_bound_for_all_b(self):
        for b in range(1, 401):
            found = ask(begin(b, b), begin(b + 1, b), begin(2 * b, b), begin(2 * b + 1, b))
            self.assertEqual(found, [[-22], [0], [0], [-22]], b)


class NotBegun(unittest.TestCase):
    def test_each_call_ahead_of_begin(self):
        for call in OTHERS + NOT_AS_TOLD_OTHERS:
            self.assertEqual(answers(call), [1, -11], call)

    def test_one_behind_another(self):
        self.assertEqual(ask(*OTHERS, *NOT_AS_TOLD_OTHERS), [[-11]] * 24)

    def test_behind_a_refused_begin(self):
        for refused in (begin(1, 1), begin(3, 1), begin(2, 0), begin(601, 401), begin(GREATEST, GREATEST)):
            found = ask(refused, *OTHERS, *NOT_AS_TOLD_OTHERS)
            self.assertEqual(found, [[-22]] + [[-11]] * 24, refused)

    def test_begin_behind_refusals(self):
        found = ask(lead(3), begin(1, 1), lead(3), begin(2, 1), lead(3), lead(0))
        self.assertEqual(found, [[-11], [-22], [-11], [0], [3, 2, 0, 0], [-22]])


class Kept(unittest.TestCase):
    def test_refused_begin_keeps_the_tent(self):
        asked = [put(1, 2), row(1, 3, 8), lead(8), fits([0, 2, 0, 0]), count(9)]
        before = ask(begin(3, 2), *asked)[1:]
        for refused in (begin(2, 0), begin(1, 1), begin(3, 1), begin(601, 401), begin(GREATEST, 400)):
            self.assertEqual(ask(begin(3, 2), refused, *asked)[2:], before, refused)

    def test_next_begin_is_another_tent(self):
        found = ask(begin(3, 2), put(1, 2), lead(4), begin(2, 1), put(1, 2), lead(4), begin(3, 2), put(1, 2))
        self.assertEqual(found, [[0], [0, 3, 4], [4, 2, 0, 2, 2], [0], [0, 1, 1], [4, 2, 0, 0, 0], [0], [0, 3, 4]])

    def test_not_shortened_is_the_same_tent(self):
        asked = [put(2, 5), row(2, 5, 16), lead(16), fits([0, 2, 0, 0]), count(9)]
        self.assertEqual(ask(begin(3, 2), *asked), ask(begin(600, 400), *asked))

    def test_each_refused_call_changes_nothing(self):
        asked = [put(1, 3), row(1, 3, 6), lead(6), order([2, 0], [2, 2]), fits([0, 2, 0, 0]), count(5)]
        before = ask(begin(7, 5), *asked)[1:]
        for refused in NOT_AS_TOLD_OTHERS:
            found = ask(begin(7, 5), refused, *asked)
            self.assertEqual(found[1:], [[-22]] + before, refused)
