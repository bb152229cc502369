import unittest
from fractions import Fraction

from foldedtent.leftright import answers
from tests.helper import (GREATEST, TENTS, Model, all_rows, ask_many, ask_tent, count, fits, holds, laps, laps_of,
                          lead, letters_of, sides)

NONE = [-33]


def ask_holds(a, b, *texts):
    return ask_tent(a, b, *[holds(sides(text)) for text in texts])


class Holds(unittest.TestCase):
    def test_whole_list(self):
        given = answers([0, 3, 2, 7, 2, 0, 2, 7, 4, 0, 2, 0, 0, 7, 1, 2])
        self.assertEqual(given, [1, 0, 5, 0, 1, 3, 1, 2, 1, -33, 5, 0, 1, 2, 1, 1])

    def test_ordinary(self):
        found = ask_holds(3, 2, "00", "02", "22", "20", "200", "202", "220", "020")
        self.assertEqual(found, [[0, 0, 1, 1, 3], [0, 1, 3, 1, 2], [0, 1, 2, 2, 3], [0, 2, 3, 1, 1],
                                 [0, 7, 9, 1, 1], [0, 2, 3, 7, 9], [0, 1, 2, 5, 9], [0, 4, 9, 1, 2]])

    def test_one_letter_goes_to_the_middle(self):
        for a, b in TENTS:
            self.assertEqual(ask_holds(a, b, "0", "2"), [[0, 0, 1, 1, 2], [0, 1, 2, 1, 1]], (a, b))

    def test_ends_of_the_line(self):
        for a, b in TENTS:
            left, right = ask_holds(a, b, "0" * 16, "2" + "0" * 15)
            last = Fraction(b, a) ** 15 / 2
            self.assertEqual(left, [0, 0, 1, last.numerator, last.denominator], (a, b))
            self.assertEqual(right, [0, (1 - last).numerator, last.denominator, 1, 1], (a, b))

    def test_beside_the_middle(self):
        for a, b in TENTS:
            # What lies close to the middle is put close to where the lead begins.
            top = ask_tent(a, b, lead(15))[0][1:]
            left, right = ask_tent(a, b, holds([0] + top), holds([2] + top))
            self.assertEqual(left[3:], [1, 2], (a, b))
            self.assertEqual(right[1:3], [1, 2], (a, b))

    def test_drawn_out_by_2(self):
        found = ask_holds(2, 1, "000", "002", "022", "020", "220", "222", "202", "200")
        ends = ((0, 1), (1, 8), (1, 4), (3, 8), (1, 2), (5, 8), (3, 4), (7, 8), (1, 1))
        self.assertEqual(found, [[0, *low, *high] for low, high in zip(ends, ends[1:])])
        self.assertEqual(ask_holds(2, 1, "0" * 15 + "2", "2" + "0" * 14 + "2"),
                         [[0, 1, 65536, 1, 32768], [0, 32767, 32768, 65535, 65536]])

    def test_drawn_out_by_hardly_more_than_1(self):
        found = ask_holds(401, 400, "02", "22", "200", "0200", "2200")
        self.assertEqual(found, [[0, 200, 401, 1, 2], [0, 1, 2, 201, 401], [0, 80801, 160801, 1, 1], NONE, NONE])

    def test_no_stretch_has_it(self):
        self.assertEqual(ask_holds(3, 2, "0200", "00200", "2200", "0" * 12 + "0200", "2" * 12 + "2200"), [NONE] * 5)

    def test_a_row_greater_than_the_lead_may_have_one(self):
        # The place 1 has the greatest row of all; nothing is put so far right, so only behind a letter it's too great.
        self.assertEqual(ask_holds(3, 2, "2000", "02000"), [[0, 23, 27, 1, 1], NONE])

    def test_bounds_of_length(self):
        found = ask_holds(2, 1, "", "0" * 16, "0" * 17, "2" * 18, "2" * 20)
        self.assertEqual(found, [[-22], [0, 0, 1, 1, 65536], [-22], [-22], [-22]])

    def test_other_letters(self):
        for letter in (1, 3, 4, GREATEST):
            asked = [holds(each) for each in ([letter], [0, letter], [letter, 2], [0] * 15 + [letter], [letter] * 20)]
            self.assertEqual(ask_tent(2, 1, *asked), [[-22]] * 5, letter)

    def test_not_as_told_is_told_ahead_of_none(self):
        found = ask_tent(3, 2, holds(sides("0200" + "0" * 12)), holds(sides("0200" + "0" * 13)), holds([0, 2, 0, 0, 1]))
        self.assertEqual(found, [NONE, [-22], [-22]])

    def test_same_as_by_trying_out_all_rows(self):
        for a, b in TENTS:
            share = Fraction(a, b)
            for k in range(1, 9):
                there = {tuple(letters): ends for letters, ends in laps_of(share, k)}
                rows = all_rows(k)
                found = ask_many(a, b, [holds(each) for each in rows])
                expected = [there.get(tuple(each)) for each in rows]
                expected = [[0, *each[0].as_integer_ratio(), *each[1].as_integer_ratio()] if each else NONE
                            for each in expected]
                self.assertEqual(found, expected, (a, b, k))

    def test_rows_of_16_letters(self):
        for a, b in TENTS:
            model = Model()
            model.begin(a, b)
            there = [letters_of(Fraction(a, b), Fraction(p, 61), 16) for p in range(1, 61)]
            missed = [each[:8] + other[8:] for each, other in zip(there, there[7:])]
            found = ask_many(a, b, [holds(each) for each in there + missed])
            self.assertEqual(found, [model.holds(each) for each in there + missed], (a, b))
            self.assertNotIn(NONE, found[:60])


class Laps(unittest.TestCase):
    def test_whole_list(self):
        given = answers([0, 3, 2, 8, 1, 8, 2, 8, 3, 8, 4, 8, 5, 8, 9, 8, 10])
        self.assertEqual(given, [1, 0, 1, 2, 1, 4, 1, 8, 1, 14, 1, 24, 1, 142, 1, -22])

    def test_drawn_out_by_2(self):
        for a, b in ((2, 1), (800, 400)):
            found = ask_tent(a, b, *[laps(k) for k in range(1, 10)])
            self.assertEqual(found, [[2], [4], [8], [16], [32], [64], [128], [256], [512]])

    def test_drawn_out_by_hardly_more_than_1(self):
        found = ask_tent(401, 400, *[laps(k) for k in range(1, 10)])
        self.assertEqual(found, [[2], [4], [8], [14], [24], [38], [58], [84], [120]])

    def test_one_step(self):
        for a, b in TENTS:
            self.assertEqual(ask_tent(a, b, laps(1)), [[2]], (a, b))

    def test_bounds(self):
        found = ask_tent(3, 2, laps(0), laps(1), laps(9), laps(10), laps(16), laps(GREATEST))
        self.assertEqual(found, [[-22], [2], [142], [-22], [-22], [-22]])

    def test_between_neighbouring_folds(self):
        for b in (1, 2, 3, 7, 20, 101, 400):
            for a in range(b + 1, 2 * b + 1, 1 + b // 8):
                found = ask_tent(a, b, *[laps(k) for k in range(1, 8)])
                self.assertEqual(found, [[len(laps_of(Fraction(a, b), k))] for k in range(1, 8)], (a, b))


class RowsAndLaps(unittest.TestCase):
    def test_just_those_that_fit_have_a_stretch_and_are_as_many_as_the_laps(self):
        for a, b in TENTS:
            for k in range(1, 10):
                rows = all_rows(k)
                fitting = ask_many(a, b, [fits(each) for each in rows])
                held = ask_many(a, b, [holds(each) for each in rows])
                self.assertEqual([answer == [1] for answer in fitting], [answer != NONE for answer in held], (a, b, k))
                how_many = [fitting.count([1])]
                self.assertEqual(ask_tent(a, b, count(k), laps(k)), [how_many, how_many], (a, b, k))

    def test_stretches_fill_the_line(self):
        for a, b in TENTS:
            for k in (1, 2, 5, 8):
                held = ask_many(a, b, [holds(each) for each in all_rows(k)])
                there = sorted([(Fraction(*each[1:3]), Fraction(*each[3:])) for each in held if each != NONE])
                self.assertEqual([there[0][0], there[-1][1]], [0, 1])
                self.assertEqual([low for low, high in there[1:]], [high for low, high in there[:-1]], (a, b, k))

    def test_folded_no_less_often_than_drawn_out(self):
        for b in range(1, 401, 19):
            for a in range(b + 1, 2 * b + 1, 1 + b // 6):
                found = ask_tent(a, b, *[laps(k) for k in range(1, 10)])
                for k in range(1, 10):
                    self.assertLessEqual(a ** k, found[k - 1][0] * b ** k, (a, b, k))
                    self.assertLessEqual(found[k - 1][0], 2 ** k, (a, b, k))
