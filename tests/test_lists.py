import contextlib
import io
import random
import unittest

from foldedtent.leftright import answers
from tests import helper
from tests.helper import (GREATEST, Model, ask, begin, comes, count, cut, fits, holds, inner, joined, laps, lead, order,
                          put, round_of, rounds, row, state)

NAMES = ("begin", "put", "row", "lead", "order", "fits", "count", "holds", "laps", "comes", "rounds", "round_of",
         "inner", "state")


def any_letters(source, letters):
    return [source.choice(letters) for _ in range(source.choice((0, 1, 2, 3, 5, 8, 15, 16, 17, 20)))]


def any_arguments(source, name):
    """Arguments about the bounds, so that both answers and refusals come about."""
    if name == "begin":
        b = source.choice((0, 1, 2, 5, 20, 21, 100, 399, 400, 401, GREATEST))
        return b + source.choice((0, 1, b // 2, b // 3, b, b + 1)) if b < GREATEST else GREATEST, b
    q = source.choice((0, 1, 2, 3, 10, 999, 1000, 1001, GREATEST))
    p = source.choice((0, 1, q // 2, q // 3, q - q // 3, q, min(q + 1, GREATEST)))
    k = source.choice((0, 1, 2, 5, 8, 9, 10, 15, 16, 17, GREATEST))
    if name == "put":
        return p, q
    if name == "row":
        return p, q, k
    if name == "order":
        letters = source.choice(((0, 2), (0, 1, 2), (2,), (0, 1, 2, 3)))
        return any_letters(source, letters), any_letters(source, letters)
    if name in ("fits", "holds", "comes"):
        return (any_letters(source, source.choice(((0, 2), (2, 2, 0), (0, 2, 2, 2, 2, 1)))),)
    if name == "round_of":
        return min(k, source.choice((8, 9, GREATEST))), source.choice((0, 0, 1, 2, 3, 8, 9, 29, 30, 55, 56, GREATEST))
    return () if name in ("inner", "state") else (k,)


def any_list(source, how_many):
    """So many calls, with what the model answers to each."""
    model = Model()
    calls, expected = [], []
    for _ in range(how_many):
        name = source.choice(NAMES)
        arguments = any_arguments(source, name)
        calls.append(getattr(helper, name)(*arguments))
        expected.append(model.answer(name, *arguments))
    return calls, expected


class Lists(unittest.TestCase):
    def test_calls_0_to_6(self):
        handed_in = [0, 3, 2, 1, 1, 2, 2, 1, 3, 3, 3, 4, 4, 2, 2, 0, 1, 2, 5, 2, 0, 2, 6, 4]
        given = [1, 0, 3, 0, 3, 4, 4, 3, 0, 1, 2, 5, 4, 2, 0, 2, 2, 1, 1, 1, 1, 1, 14]
        self.assertEqual(answers(handed_in), given)

    def test_calls_7_to_13(self):
        handed_in = [0, 4, 3, 7, 2, 0, 2, 8, 3, 9, 2, 2, 0, 10, 2, 11, 2, 0, 12, 13]
        given = [1, 0, 5, 0, 3, 8, 1, 2, 1, 8, 3, 0, 16, 25, 1, 1, 3, 2, 2, 0, 2, 16, 9, 2, 16, 9]
        self.assertEqual(answers(handed_in), given)

    def test_any_calls(self):
        for seed in range(60):
            calls, expected = any_list(random.Random(seed), 1 + 7 * seed)
            calls, expected = calls[:400], expected[:400]
            self.assertEqual(cut(answers(joined(calls))), expected, seed)

    def test_400_calls(self):
        calls, expected = any_list(random.Random(400), 400)
        self.assertEqual(len(calls), 400)
        self.assertEqual(ask(*calls), expected)
        self.assertEqual({number for answer in expected for number in answer if number < 0}, {-11, -22, -28, -33})

    def test_the_longest_list(self):
        handed_in = order([2] * 20, [0] * 20) * 400
        self.assertEqual(len(handed_in), 17200)
        self.assertEqual(answers(handed_in), [1, -11] * 400)
        self.assertEqual(answers(begin(2, 1) + handed_in[43:]), [1, 0] + [1, -22] * 399)

    def test_400_counts_and_rows(self):
        self.assertEqual(ask(begin(2, 1), *[count(9)] * 399), [[0]] + [[512]] * 399)
        self.assertEqual(ask(begin(2, 1), *[row(1, 1, 16)] * 399), [[0]] + [[16, 2] + [0] * 15] * 399)

    def test_400_laps_and_rounds(self):
        self.assertEqual(ask(begin(2, 1), *[laps(9)] * 399), [[0]] + [[512]] * 399)
        self.assertEqual(ask(begin(799, 400), *[rounds(9)] * 399), [[0]] + [[56]] * 399)
        last = [9, 2, 0, 2, 2, 2, 2, 2, 2, 2]
        self.assertEqual(ask(begin(800, 400), *[round_of(9, 55)] * 399), [[0]] + [last] * 399)
        self.assertEqual(ask(*[begin(799, 400), rounds(9)] * 200), [[0], [56]] * 200)

    def test_400_rows_of_16_letters(self):
        self.assertEqual(ask(begin(2, 1), *[comes([2] * 16)] * 399), [[0]] + [[0, 2, 3]] * 399)
        self.assertEqual(ask(begin(2, 1), *[holds([0] * 16)] * 399), [[0]] + [[0, 0, 1, 1, 65536]] * 399)

    def test_400_inner_tents(self):
        found = ask(*[begin(5, 4), inner(), inner(), state()] * 100)
        self.assertEqual(found, [[0], [25, 16], [-33], [25, 16]] * 100)

    def test_refused_rows_are_gone_past(self):
        found = ask(begin(2, 1), fits([]), lead(1), fits([0] * 20), lead(2), fits([GREATEST] * 17), count(1),
                    order([], [5] * 20), put(0, 1), order([0] * 17, []), row(0, 1, 1))
        self.assertEqual(found, [[0], [-22], [1, 2], [-22], [2, 2, 0], [-22], [2], [-22], [0, 0, 1], [-22], [1, 0]])
        found = ask(begin(2, 1), holds([]), laps(1), holds([7] * 20), rounds(1), comes([]), state(), comes([13] * 17),
                    round_of(1, 1))
        self.assertEqual(found, [[0], [-22], [2], [-22], [2], [-22], [2, 1], [-22], [1, 2]])

    def test_what_is_handed_in_is_the_same_afterwards(self):
        for seed in range(20):
            handed_in = joined(any_list(random.Random(seed), 200)[0])
            before = list(handed_in)
            answers(handed_in)
            self.assertEqual(handed_in, before)

    def test_the_same_list_twice(self):
        handed_in = joined(any_list(random.Random(5), 300)[0])
        first = answers(handed_in)
        kept = list(first)
        second = answers(handed_in)
        self.assertEqual(first, second)
        first.append(7)
        self.assertEqual(answers(handed_in), kept)

    def test_nothing_is_kept(self):
        self.assertEqual(answers(begin(3, 2) + lead(1)), [1, 0, 2, 1, 2])
        self.assertEqual(answers(lead(1)), [1, -11])
        self.assertEqual(answers(begin(2, 0) + lead(1)), [1, -22, 1, -11])
        self.assertEqual(answers(begin(5, 4) + inner()), [1, 0, 2, 25, 16])
        self.assertEqual(answers(state() + inner() + begin(5, 4) + state()), [1, -11, 1, -11, 1, 0, 2, 5, 4])

    def test_a_list_of_whole_numbers(self):
        given = answers(joined(any_list(random.Random(9), 400)[0]))
        self.assertIs(type(given), list)
        self.assertEqual({type(number) for number in given}, {int})

    def test_nothing_is_printed(self):
        out, err = io.StringIO(), io.StringIO()
        with contextlib.redirect_stdout(out), contextlib.redirect_stderr(err):
            answers(joined(any_list(random.Random(3), 100)[0]))
        self.assertEqual((out.getvalue(), err.getvalue()), ("", ""))
