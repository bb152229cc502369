import unittest
from fractions import Fraction

from foldedtent.leftright import answers
from tests.helper import (GREATEST, TENTS, Model, all_rows, ask_many, ask_tent, begin, comes, fits, holds, inner,
                          laps_of, letters_of, put, round_of, rounds, rounds_by_trial, row, sides, walked)

NONE = [-33]


def ask_comes(a, b, *texts):
    return ask_tent(a, b, *[comes(sides(text)) for text in texts])


def ask_rounds(a, b, k):
    """The rows of all rounds of k steps, as texts."""
    how_many = ask_tent(a, b, rounds(k))[0][0]
    found = ask_tent(a, b, *[round_of(k, j) for j in range(how_many + 1)])
    if found.pop() != NONE or any(each[0] != k or len(each) != k + 1 for each in found):
        raise AssertionError("not as many as told, or not of so many letters")
    return ["".join(map(str, each[1:])) for each in found]


class Comes(unittest.TestCase):
    def test_whole_list(self):
        given = answers([0, 3, 2, 9, 2, 2, 0, 9, 3, 2, 0, 0, 9, 1, 2])
        self.assertEqual(given, [1, 0, 3, 0, 9, 13, 1, -33, 3, 0, 3, 5])

    def test_ordinary(self):
        # 69 by 97 is put onto 42, 63, 51 and 69 by 97 again.
        found = ask_comes(3, 2, "02", "20", "22", "2022", "0222", "2220", "2202")
        self.assertEqual(found, [[0, 6, 13], [0, 9, 13], [0, 3, 5], [0, 69, 97], [0, 42, 97], [0, 63, 97], [0, 51, 97]])

    def test_one_letter(self):
        for a, b in TENTS:
            stays = Fraction(a, a + b)
            found = ask_comes(a, b, "0", "2")
            self.assertEqual(found, [[0, 0, 1], [0, stays.numerator, stays.denominator]], (a, b))

    def test_rows_of_0_alone(self):
        for a, b in TENTS:
            self.assertEqual(ask_comes(a, b, *["0" * k for k in range(1, 17)]), [[0, 0, 1]] * 16, (a, b))

    def test_drawn_out_by_2(self):
        found = ask_comes(2, 1, "2", "20", "02", "200", "002", "020", "202", "022", "220")
        self.assertEqual(found, [[0, 2, 3], [0, 4, 5], [0, 2, 5], [0, 8, 9], [0, 2, 9], [0, 4, 9], [0, 6, 7], [0, 2, 7],
                                 [0, 4, 7]])
        self.assertEqual(ask_comes(2, 1, "2" + "0" * 15, "0" * 15 + "2"), [[0, 65536, 65537], [0, 2, 65537]])

    def test_drawn_out_by_hardly_more_than_1(self):
        found = ask_comes(401, 400, "2", "20", "02", "200", "202", "2002", "2022")
        self.assertEqual(found, [[0, 401, 801], [0, 160801, 320801], [0, 160400, 320801], NONE, NONE, NONE,
                                 [0, 25792801601, 51456961601]])

    def test_a_shorter_row_again_has_the_same_place(self):
        for a, b in TENTS:
            found = ask_comes(a, b, "20", "2020", "20" * 8, "2", "22", "2" * 16)
            self.assertEqual([found[0]] * 2 + [found[3]] * 2, found[1:3] + found[4:], (a, b))

    def test_a_row_that_fits_and_nobody_comes_back(self):
        for a, b in ((3, 2), (8, 5), (401, 400)):
            for letters in (sides("200"), sides("202"), sides("020"), sides("220")):
                found = ask_tent(a, b, fits(letters), holds(letters), comes(letters))
                self.assertEqual([found[0], found[1][0], found[2]], [[1], 0, NONE], (a, b, letters))

    def test_a_row_that_does_not_fit(self):
        self.assertEqual(ask_comes(3, 2, "0200", "2200", "00200", "0" * 13 + "200"), [NONE] * 4)

    def test_bounds_of_length(self):
        found = ask_comes(2, 1, "", "2" * 16, "2" * 17, "0" * 18, "2" * 20)
        self.assertEqual(found, [[-22], [0, 2, 3], [-22], [-22], [-22]])

    def test_other_letters(self):
        for letter in (1, 3, 4, GREATEST):
            asked = [comes(each) for each in ([letter], [0, letter], [letter, 2], [0] * 15 + [letter], [letter] * 20)]
            self.assertEqual(ask_tent(2, 1, *asked), [[-22]] * 5, letter)

    def test_not_as_told_is_told_ahead_of_none(self):
        found = ask_tent(3, 2, comes(sides("0200" * 4)), comes(sides("0200" * 5)), comes([2, 0, 0, 1]))
        self.assertEqual(found, [NONE, [-22], [-22]])

    def test_same_as_by_trying_out_all_rows(self):
        for a, b in TENTS:
            model = Model()
            model.begin(a, b)
            for k in range(1, 9):
                rows = all_rows(k)
                found = ask_many(a, b, [comes(each) for each in rows])
                self.assertEqual(found, [model.comes(each) for each in rows], (a, b, k))

    def test_rows_of_16_letters(self):
        for a, b in TENTS:
            model = Model()
            model.begin(a, b)
            rows = [letters_of(Fraction(a, b), Fraction(p, 61), 16) for p in range(1, 61)]
            rows.extend([each * 2 for each in rounds_by_trial(Fraction(a, b), 8)])
            found = ask_many(a, b, [comes(each) for each in rows])
            self.assertEqual(found, [model.comes(each) for each in rows], (a, b))
            self.assertNotIn(NONE, found[60:])


class ComesBack(unittest.TestCase):
    def test_it_has_the_row_and_is_put_where_it_was(self):
        for a, b in TENTS:
            share = Fraction(a, b)
            for k in range(1, 10):
                rows = all_rows(k)
                for letters, answer in zip(rows, ask_many(a, b, [comes(each) for each in rows])):
                    if answer != NONE:
                        place = Fraction(answer[1], answer[2])
                        self.assertEqual((place.numerator, place.denominator), (answer[1], answer[2]))
                        self.assertEqual(letters_of(share, place, k), letters, (a, b))
                        self.assertEqual(walked(share, place, k), place, (a, b, letters))

    def test_it_is_put_where_it_was_by_the_calls_themselves(self):
        for a, b in ((2, 1), (3, 2), (4, 3), (8, 5)):
            for letters in all_rows(5) + all_rows(4) + all_rows(2):
                answer = ask_tent(a, b, comes(letters))[0]
                if answer != NONE and answer[2] <= 1000:
                    self.assertEqual(ask_tent(a, b, row(*answer[1:], len(letters)))[0][1:], letters)
                    place = answer
                    for _ in letters:
                        place = ask_tent(a, b, put(*place[1:]))[0] if place[2] <= 1000 else place
                    self.assertEqual(place, answer, (a, b, letters))

    def test_no_other_place_does(self):
        for a, b in TENTS:
            share = Fraction(a, b)
            for k in (1, 2, 3, 4, 6):
                # Each lap is drawn out evenly, so it crosses the places that stay at most once.
                back = {}
                for letters, (low, high) in laps_of(share, k):
                    ahead, behind = walked(share, low, k) - low, walked(share, high, k) - high
                    if ahead * behind <= 0:
                        place = low + (high - low) * ahead / (ahead - behind)
                        back[place] = letters_of(share, place, k)
                rows = all_rows(k)
                found = ask_many(a, b, [comes(each) for each in rows])
                found = {Fraction(*each[1:]): letters for letters, each in zip(rows, found) if each != NONE}
                self.assertEqual(found, {place: each for place, each in back.items() if 1 not in each}, (a, b, k))


class Rounds(unittest.TestCase):
    def test_whole_list(self):
        given = answers([0, 3, 2, 10, 1, 10, 2, 10, 3, 10, 4, 10, 6, 10, 9, 10, 10])
        self.assertEqual(given, [1, 0, 1, 2, 1, 1, 1, 0, 1, 1, 1, 2, 1, 4, 1, -22])

    def test_drawn_out_by_2(self):
        for a, b in ((2, 1), (800, 400)):
            found = ask_tent(a, b, *[rounds(k) for k in range(1, 10)])
            self.assertEqual(found, [[2], [1], [2], [3], [6], [9], [18], [30], [56]])

    def test_drawn_out_by_hardly_more_than_1(self):
        found = ask_tent(401, 400, *[rounds(k) for k in range(1, 10)])
        self.assertEqual(found, [[2], [1], [0], [1], [0], [0], [0], [1], [0]])

    def test_one_step(self):
        for a, b in TENTS:
            self.assertEqual(ask_tent(a, b, rounds(1)), [[2]], (a, b))

    def test_three_steps_come_about_all_at_once(self):
        # From 1 and the root of 5, by 2, on: 1.6180..
        found = [ask_tent(a, b, rounds(3))[0] for a, b in ((161, 100), (377, 233), (610, 377), (13, 8))]
        self.assertEqual(found, [[0], [0], [2], [2]])

    def test_bounds(self):
        found = ask_tent(2, 1, rounds(0), rounds(1), rounds(9), rounds(10), rounds(16), rounds(GREATEST))
        self.assertEqual(found, [[-22], [2], [56], [-22], [-22], [-22]])

    def test_same_as_by_trying_out_all_rows(self):
        for a, b in TENTS:
            found = ask_tent(a, b, *[rounds(k) for k in range(1, 9)])
            self.assertEqual(found, [[len(rounds_by_trial(Fraction(a, b), k))] for k in range(1, 9)], (a, b))

    def test_each_place_that_comes_back_is_in_one_round(self):
        for a, b in TENTS:
            how_many = [answer[0] for answer in ask_tent(a, b, *[rounds(k) for k in range(1, 10)])]
            for k in range(1, 10):
                found = ask_many(a, b, [comes(each) for each in all_rows(k)])
                back = len(found) - found.count(NONE)
                self.assertEqual(back, sum(n * how_many[n - 1] for n in range(1, k + 1) if k % n == 0), (a, b, k))


class RoundOf(unittest.TestCase):
    def test_whole_list(self):
        given = answers([0, 2, 1, 11, 1, 0, 11, 1, 1, 11, 1, 2, 11, 4, 1, 11, 0, 0])
        self.assertEqual(given, [1, 0, 2, 1, 0, 2, 1, 2, 1, -33, 5, 4, 2, 0, 0, 2, 1, -22])

    def test_one_step(self):
        for a, b in TENTS:
            self.assertEqual(ask_rounds(a, b, 1), ["0", "2"], (a, b))

    def test_from_the_last_letter_on(self):
        self.assertEqual(ask_rounds(2, 1, 2), ["20"])
        self.assertEqual(ask_rounds(2, 1, 3), ["200", "202"])
        self.assertEqual(ask_rounds(2, 1, 4), ["2000", "2002", "2022"])
        self.assertEqual(ask_rounds(2, 1, 5), ["20000", "20020", "20220", "20002", "20022", "20222"])

    def test_ordinary(self):
        self.assertEqual(ask_rounds(3, 2, 4), ["2022"])
        self.assertEqual(ask_rounds(3, 2, 6), ["202220", "202222"])
        self.assertEqual(ask_rounds(3, 2, 8), ["20222020", "20222220", "20222222"])

    def test_drawn_out_by_hardly_more_than_1(self):
        self.assertEqual([ask_rounds(401, 400, k) for k in (2, 3, 4, 8)], [["20"], [], ["2022"], ["20222020"]])

    def test_a_shorter_row_again_is_no_round(self):
        self.assertNotIn("22", ask_rounds(2, 1, 2))
        self.assertNotIn("00", ask_rounds(2, 1, 2))
        self.assertNotIn("222", ask_rounds(2, 1, 3))
        self.assertNotIn("2020", ask_rounds(2, 1, 4))
        for again in ("200200", "202202", "202020", "222222", "000000"):
            self.assertNotIn(again, ask_rounds(2, 1, 6))
            self.assertNotEqual(ask_comes(2, 1, again), [NONE])

    def test_just_as_many_as_there_are(self):
        found = ask_tent(2, 1, round_of(9, 55), round_of(9, 56), round_of(2, 0), round_of(2, 1), round_of(1, 1))
        self.assertEqual(found, [[9, 2, 0, 2, 2, 2, 2, 2, 2, 2], NONE, [2, 2, 0], NONE, [1, 2]])
        self.assertEqual(ask_tent(3, 2, round_of(3, 0), round_of(4, 0), round_of(4, 1)), [NONE, [4, 2, 0, 2, 2], NONE])
        self.assertEqual(ask_tent(2, 1, round_of(1, 2), round_of(9, GREATEST)), [NONE, NONE])

    def test_bounds(self):
        found = ask_tent(2, 1, round_of(0, 0), round_of(1, 0), round_of(9, 0), round_of(10, 0), round_of(GREATEST, 0))
        self.assertEqual(found, [[-22], [1, 0], [9, 2, 0, 0, 0, 0, 0, 0, 0, 0], [-22], [-22]])

    def test_not_as_told_is_told_ahead_of_none(self):
        asked = [round_of(0, GREATEST), round_of(10, GREATEST), round_of(GREATEST, GREATEST), round_of(0, 2)]
        self.assertEqual(ask_tent(2, 1, *asked), [[-22]] * 4)

    def test_same_as_by_trying_out_all_rows(self):
        for a, b in TENTS:
            for k in range(1, 10):
                there = rounds_by_trial(Fraction(a, b), k)
                found = ask_rounds(a, b, k)
                self.assertEqual(found, ["".join(map(str, each)) for each in there], (a, b, k))


class TentWithinATent(unittest.TestCase):
    def test_no_round_of_an_odd_number_of_steps(self):
        for a, b in ((7, 5), (140, 99), (5, 4), (4, 3), (6, 5), (41, 29), (401, 400), (28, 20), (565, 400)):
            self.assertEqual(ask_tent(a, b, *[rounds(k) for k in (3, 5, 7, 9)]), [[0]] * 4, (a, b))

    def test_of_twice_as_many_steps_as_many_as_the_inner_tent(self):
        for b in range(3, 21):
            for a in [each for each in range(b + 1, 2 * b) if each * each < 2 * b * b]:
                outer = [rounds(2 * k) for k in (2, 3, 4)]
                found = ask_tent(a, b, *outer, inner(), *[rounds(k) for k in (2, 3, 4)])
                self.assertEqual(found[:3], found[4:], (a, b))
                again = ask_tent(a * a, b * b, *[rounds(k) for k in (2, 3, 4)])
                self.assertEqual(found[:3], again, (a, b))

    def test_as_a_tent_of_its_own(self):
        calls = begin(7, 5) + rounds(6) + rounds(8) + inner() + rounds(3) + rounds(4) + round_of(4, 2)
        self.assertEqual(answers(calls), [1, 0, 1, 2, 1, 3, 2, 49, 25, 1, 2, 1, 3, 5, 4, 2, 0, 2, 2])
