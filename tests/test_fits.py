import unittest
from fractions import Fraction

from foldedtent.leftright import answers
from tests.helper import GREATEST, Model, all_rows, ask_tent, count, fits, lead, rows_with_a_stretch, sides

SHARES = ((2, 1), (3, 2), (5, 4), (7, 5), (8, 5), (13, 8), (401, 400), (799, 400), (283, 200), (141, 100))


def ask_fits(a, b, *texts):
    return [answer[0] for answer in ask_tent(a, b, *[fits(sides(text)) for text in texts])]


class Fits(unittest.TestCase):
    def test_whole_list(self):
        given = answers([0, 3, 2, 5, 1, 2, 5, 4, 0, 2, 0, 0, 5, 3, 0, 2, 0])
        self.assertEqual(given, [1, 0, 1, 1, 1, 0, 1, 1])

    def test_one_letter(self):
        for a, b in SHARES:
            self.assertEqual(ask_fits(a, b, "0", "2"), [1, 1])

    def test_the_row_itself_may_be_greater(self):
        # The lead of 3 by 2 is 2022..: 2002 is greater, but only a tail counts.
        self.assertEqual(ask_fits(3, 2, "200", "0200", "2200", "00", "2002", "20020"), [1, 0, 0, 1, 1, 1])

    def test_each_tail_counts(self):
        self.assertEqual(ask_fits(3, 2, "0200", "00200", "000200", "0002002", "0000000000000200"), [0] * 5)
        self.assertEqual(ask_fits(3, 2, "0222", "02220", "022202", "0000000000000222", "2222222222222222"), [1] * 5)

    def test_a_tail_that_is_the_lead(self):
        for a, b in SHARES:
            top = ask_tent(a, b, lead(16))[0][1:]
            rows = [ahead + top[:k] for k in range(1, 16) for ahead in ([0], [2])]
            self.assertEqual(ask_tent(a, b, *[fits(each) for each in rows]), [[1]] * 30, (a, b))

    def test_a_tail_just_above_the_lead(self):
        # The tail is the lead but for its last letter: 0 is greater behind an odd number of 2, 2 behind an even.
        self.assertEqual(ask_fits(3, 2, "0202", "0200"), [1, 0])
        self.assertEqual(ask_fits(3, 2, "020222", "020220"), [1, 0])
        self.assertEqual(ask_fits(13, 8, "020020", "020022"), [1, 0])

    def test_a_tail_just_below_the_lead(self):
        self.assertEqual(ask_fits(3, 2, "02022", "02020"), [1, 1])
        self.assertEqual(ask_fits(8, 5, "020220", "020222"), [1, 1])

    def test_drawn_out_by_2_all_fit(self):
        for k in (1, 2, 5, 8):
            rows = all_rows(k)
            self.assertEqual(ask_tent(2, 1, *[fits(each) for each in rows]), [[1]] * len(rows))
        self.assertEqual(ask_fits(2, 1, "2000000000000000", "0200000000000000", "2020202020202020"), [1, 1, 1])

    def test_drawn_out_by_hardly_more_than_1(self):
        self.assertEqual(ask_fits(401, 400, "0202", "0200", "2200", "0000000000000000", "2222222222222222"),
                         [1, 0, 0, 1, 1])

    def test_bounds_of_length(self):
        self.assertEqual(ask_fits(2, 1, "", "0" * 16, "0" * 17, "2" * 18, "2" * 20), [-22, 1, -22, -22, -22])

    def test_other_letters(self):
        for letter in (1, 3, 4, GREATEST):
            asked = [fits(each) for each in ([letter], [0, letter], [letter, 2], [0] * 15 + [letter], [letter] * 20)]
            self.assertEqual(ask_tent(2, 1, *asked), [[-22]] * 5, letter)

    def test_those_that_fit_have_a_stretch(self):
        for a, b in SHARES:
            for k in range(1, 8):
                rows = all_rows(k)
                there = rows_with_a_stretch(Fraction(a, b), k)
                found = ask_tent(a, b, *[fits(each) for each in rows])
                self.assertEqual(found, [[1] if each in there else [0] for each in rows], (a, b, k))

    def test_long_rows(self):
        for a, b in SHARES:
            model = Model()
            model.begin(a, b)
            # From left to right, so that rows near the lead are there as well as others.
            there = rows_with_a_stretch(Fraction(a, b), 10)
            rows = [each[cut:] + there[-1 - at][:6 + cut] for at, each in enumerate(there) for cut in (0, 5)][:390]
            found = ask_tent(a, b, *[fits(each) for each in rows])
            self.assertEqual(found, [model.fits(each) for each in rows], (a, b))


class Count(unittest.TestCase):
    def test_whole_list(self):
        given = answers([0, 3, 2, 6, 1, 6, 2, 6, 3, 6, 4, 6, 5, 6, 9])
        self.assertEqual(given, [1, 0, 1, 2, 1, 4, 1, 8, 1, 14, 1, 24, 1, 142])

    def test_drawn_out_by_2(self):
        found = ask_tent(2, 1, *[count(k) for k in range(1, 10)])
        self.assertEqual(found, [[2], [4], [8], [16], [32], [64], [128], [256], [512]])

    def test_drawn_out_by_hardly_more_than_1(self):
        found = ask_tent(401, 400, *[count(k) for k in range(1, 10)])
        self.assertEqual(found, [[2], [4], [8], [14], [24], [38], [58], [84], [120]])

    def test_bounds(self):
        found = ask_tent(3, 2, count(0), count(1), count(9), count(10), count(16), count(GREATEST))
        self.assertEqual(found, [[-22], [2], [142], [-22], [-22], [-22]])

    def test_as_many_as_fit(self):
        for a, b in SHARES:
            for k in range(1, 9):
                found = ask_tent(a, b, count(k), *[fits(each) for each in all_rows(k)])
                self.assertEqual(found[0], [found[1:].count([1])], (a, b, k))

    def test_as_many_as_laps(self):
        for a, b in SHARES + ((6, 5), (9, 5), (17, 10), (33, 20)):
            found = ask_tent(a, b, *[count(k) for k in range(1, 10)])
            self.assertEqual(found, [[len(rows_with_a_stretch(Fraction(a, b), k))] for k in range(1, 10)], (a, b))
