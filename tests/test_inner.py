import unittest

from foldedtent.leftright import answers
from tests.helper import (GREATEST, ask, ask_tent, begin, comes, count, fits, holds, inner, laps, lead, order, put,
                          round_of, rounds, row, state)

NONE = [-33]
TOO_MANY = [-28]

ALL_OTHERS = [put(1, 2), put(2, 3), row(1, 3, 16), lead(16), order([2, 0], [2, 2]), fits([0, 2, 0, 2, 2]),
              fits([0, 2, 0, 0]), count(9), holds([0, 2, 2]), holds([2, 0, 0]), laps(9), comes([2, 0]),
              comes([2, 0, 2, 2, 2]), rounds(7), rounds(8), rounds(9), round_of(8, 2), round_of(9, 1), state()]

# Each of the calls, refused: on the tent 7 by 6 also those that find nothing.
REFUSED = [(begin(1, 1), -22), (begin(3, 0), -22), (begin(GREATEST, GREATEST), -22), (put(2, 1), -22),
           (row(1, 2, 17), -22), (lead(0), -22), (order([3], []), -22), (fits([]), -22), (count(10), -22),
           (holds([]), -22), (holds([1]), -22), (holds([0] * 17), -22), (holds([0, 2, 0, 0]), -33),
           (laps(0), -22), (laps(10), -22), (comes([]), -22), (comes([0, 1]), -22), (comes([2] * 17), -22),
           (comes([2, 0, 0]), -33), (rounds(0), -22), (rounds(10), -22), (round_of(0, 0), -22),
           (round_of(10, 0), -22), (round_of(2, 1), -33), (round_of(9, GREATEST), -33)]


class Inner(unittest.TestCase):
    def test_whole_list(self):
        given = answers([0, 4, 3, 12, 13, 12, 13])
        self.assertEqual(given, [1, 0, 2, 16, 9, 2, 16, 9, 1, -33, 2, 16, 9])

    def test_squared_about_2(self):
        # 49 and 50, 576 and 578 are the squares and twice the squares; 100 and 98, 289 and 288 are above.
        for a, b, answer in ((7, 5, [49, 25]), (24, 17, [576, 289]), (10, 7, NONE), (17, 12, NONE), (3, 2, NONE),
                             (4, 3, [16, 9]), (5, 3, NONE), (28, 20, [784, 400]), (29, 20, NONE)):
            self.assertEqual(ask_tent(a, b, inner()), [answer], (a, b))

    def test_b_squared_about_400(self):
        for a, b, answer in ((21, 20, [441, 400]), (20, 19, [400, 361]), (22, 21, TOO_MANY), (29, 21, TOO_MANY),
                             (401, 400, TOO_MANY), (565, 400, TOO_MANY), (140, 99, TOO_MANY), (41, 29, TOO_MANY)):
            self.assertEqual(ask_tent(a, b, inner()), [answer], (a, b))

    def test_both_are_due(self):
        for a, b in ((30, 21), (99, 70), (566, 400), (800, 400), (399, 200)):
            self.assertEqual(ask_tent(a, b, inner()), [NONE], (a, b))

    def test_all_tents(self):
        for b in range(1, 401):
            nearest = [a for a in range(b + 1, 2 * b + 1) if a * a < 2 * b * b][-2:]
            for a in {b + 1, 2 * b, *nearest, *[a + 1 for a in nearest]}:
                answer = NONE if a * a > 2 * b * b else TOO_MANY if b > 20 else [a * a, b * b]
                kept = answer if answer[0] > 0 else [a, b]
                self.assertEqual(ask_tent(a, b, inner(), state()), [answer, kept], (a, b))

    def test_drawn_out_by_2(self):
        self.assertEqual(ask_tent(2, 1, inner(), state()), [NONE, [2, 1]])

    def test_an_inner_tents_inner_tent(self):
        self.assertEqual(ask_tent(7, 6, inner(), inner(), state()), [[49, 36], TOO_MANY, [49, 36]])
        self.assertEqual(ask_tent(5, 4, inner(), inner(), state()), [[25, 16], NONE, [25, 16]])
        # 36 by 25, squared, is more than 2, and 25, squared, above 400.
        self.assertEqual(ask_tent(6, 5, inner(), inner(), state()), [[36, 25], NONE, [36, 25]])

    def test_not_shortened(self):
        self.assertEqual(ask_tent(10, 8, inner(), state()), [[100, 64], [100, 64]])
        self.assertEqual(ask_tent(24, 18, inner(), state()), [[576, 324], [576, 324]])

    def test_shortened_it_would_not_be_too_many(self):
        self.assertEqual(ask_tent(28, 21, inner(), state()), [TOO_MANY, [28, 21]])
        self.assertEqual(ask_tent(400, 300, inner(), state()), [TOO_MANY, [400, 300]])

    def test_all_calls_behind_it(self):
        for a, b in ((4, 3), (5, 4), (7, 5), (7, 6), (10, 8), (28, 20), (21, 20)):
            found = ask_tent(a, b, inner(), *ALL_OTHERS)
            self.assertEqual(found[1:], ask_tent(a * a, b * b, *ALL_OTHERS), (a, b))

    def test_calls_on_both_sides(self):
        found = ask_tent(5, 4, put(1, 2), laps(4), comes([2]), inner(), put(1, 2), laps(4), comes([2]))
        self.assertEqual(found, [[0, 5, 8], [14], [0, 5, 9], [25, 16], [0, 25, 32], [14], [0, 25, 41]])

    def test_begin_behind_it(self):
        found = ask(begin(4, 3), inner(), begin(4, 3), state(), inner(), begin(1, 1), state())
        self.assertEqual(found, [[0], [16, 9], [0], [4, 3], [16, 9], [-22], [16, 9]])


class State(unittest.TestCase):
    def test_whole_list(self):
        self.assertEqual(answers([0, 3, 2, 13, 13]), [1, 0, 2, 3, 2, 2, 3, 2])

    def test_not_shortened(self):
        for a, b in ((2, 1), (800, 400), (600, 400), (401, 400), (6, 4), (399, 399 - 133)):
            self.assertEqual(ask_tent(a, b, state()), [[a, b]])

    def test_the_last_begin_that_was_not_refused(self):
        found = ask(state(), begin(1, 1), state(), begin(3, 2), state(), begin(3, 1), state(), begin(6, 4), state())
        self.assertEqual(found, [[-11], [-22], [-11], [0], [3, 2], [-22], [3, 2], [0], [6, 4]])


class Refused(unittest.TestCase):
    def test_state_before_and_behind(self):
        for call, answer in REFUSED:
            self.assertEqual(ask_tent(7, 6, state(), call, state()), [[7, 6], [answer], [7, 6]], call)
        for a, b, answer in ((3, 2, -33), (401, 400, -28), (566, 400, -33)):
            self.assertEqual(ask_tent(a, b, state(), inner(), state()), [[a, b], [answer], [a, b]])

    def test_all_calls_behind_it(self):
        before = ask_tent(7, 6, *ALL_OTHERS)
        for call, answer in REFUSED:
            self.assertEqual(ask_tent(7, 6, call, *ALL_OTHERS), [[answer]] + before, call)

    def test_answered_calls_change_nothing_either(self):
        asked = [each for call in ALL_OTHERS for each in (call, state())]
        self.assertEqual(ask_tent(7, 6, *asked)[1::2], [[7, 6]] * len(ALL_OTHERS))

    def test_behind_an_inner_tent(self):
        before = ask_tent(5, 4, inner(), *ALL_OTHERS)
        for call, answer in [each for each in REFUSED if each[1] == -22] + [(inner(), -33)]:
            self.assertEqual(ask_tent(5, 4, inner(), call, *ALL_OTHERS), before[:1] + [[answer]] + before[1:], call)
