"""How the tests write calls, read answers, and work out answers another way."""

import functools
import itertools
from fractions import Fraction

from foldedtent.leftright import answers

GREATEST = 4294967295
HALF = Fraction(1, 2)

# Drawn out by 2, by hardly more than 1, by hardly less and hardly more than what gives 2 squared, and between.
TENTS = ((2, 1), (401, 400), (7, 5), (99, 70), (140, 99), (3, 2), (5, 4), (8, 5), (13, 8), (17, 10), (799, 400))


def begin(a, b):
    return [0, a, b]


def put(p, q):
    return [1, p, q]


def row(p, q, k):
    return [2, p, q, k]


def lead(k):
    return [3, k]


def order(first, second):
    return [4, len(first), *first, len(second), *second]


def fits(letters):
    return [5, len(letters), *letters]


def count(k):
    return [6, k]


def holds(letters):
    return [7, len(letters), *letters]


def laps(k):
    return [8, k]


def comes(letters):
    return [9, len(letters), *letters]


def rounds(k):
    return [10, k]


def round_of(k, j):
    return [11, k, j]


def inner():
    return [12]


def state():
    return [13]


def joined(calls):
    """The calls as the one list that is handed in."""
    return [number for call in calls for number in call]


def cut(given):
    """What was given back, answer by answer, without the counts."""
    found = []
    at = 0
    while at < len(given):
        end = at + 1 + given[at]
        found.append(given[at + 1:end])
        at = end
    if at != len(given):
        raise AssertionError("the counts don't come out even")
    return found


def ask(*calls):
    """The answers to these calls on one new object."""
    return cut(answers(joined(calls)))


def ask_tent(a, b, *calls):
    """The answers behind a begin that answers 0."""
    found = ask(begin(a, b), *calls)
    if found[0] != [0]:
        raise AssertionError("begin was refused")
    return found[1:]


def ask_many(a, b, calls):
    """The answers of one tent to any number of calls, a list of no more than 400 at a time."""
    found = []
    for at in range(0, len(calls), 399):
        found.extend(ask_tent(a, b, *calls[at:at + 399]))
    return found


def all_rows(k):
    return [list(each) for each in itertools.product((0, 2), repeat=k)]


def sides(text):
    """A row of 0 and 2, written as a text."""
    return [int(sign) for sign in text]


def step(share, place):
    return share * min(place, 1 - place)


def letters_of(share, place, k):
    found = []
    for _ in range(k):
        found.append(0 if place < HALF else 1 if place == HALF else 2)
        place = step(share, place)
    return found


def unturned(letters):
    """The row with each letter behind an odd number of 2 turned over, so that it compares like a word."""
    return [2 - letter if letters[:at].count(2) % 2 else letter for at, letter in enumerate(letters)]


def ordered(first, second):
    shorter = min(len(first), len(second))
    left, right = unturned(first)[:shorter], unturned(second)[:shorter]
    return 0 if left < right else 1 if left == right else 2


def laps_of(share, k):
    """From left to right: the row of k letters that each lap has, and both its ends."""
    folds = reached = {HALF}
    for _ in range(k - 1):
        ahead = [place / share for place in reached if place <= share / 2]
        reached = {*ahead, *[1 - place for place in ahead]}
        folds = folds | reached
    ends = sorted(folds | {Fraction(0), Fraction(1)})
    return [(letters_of(share, (low + high) / 2, k), (low, high)) for low, high in zip(ends, ends[1:])]


def rows_with_a_stretch(share, k):
    """The rows of k letters that a whole stretch has, from left to right: one for each lap."""
    return [letters for letters, ends in laps_of(share, k)]


def stretch(share, letters):
    """The ends of the stretch, by cutting the line once for each letter from the first one on; None if it's empty."""
    low, high = Fraction(0), Fraction(1)
    slope, start = Fraction(1), Fraction(0)
    for letter in letters:
        fold = (HALF - start) / slope
        if (letter == 0) == (slope > 0):
            high = min(high, fold)
        else:
            low = max(low, fold)
        slope, start = (share * slope, share * start) if letter == 0 else (-share * slope, share * (1 - start))
    return (low, high) if low < high else None


def walked(share, place, k):
    for _ in range(k):
        place = step(share, place)
    return place


def back_along(share, letters):
    """The place that comes back, found between how far both ends of the stretch are taken; None if there's none."""
    ends = stretch(share, letters)
    if ends is None:
        return None
    low, high = [walked(share, end, len(letters)) - end for end in ends]
    if low * high > 0:
        return None
    place = ends[0] + (ends[1] - ends[0]) * low / (low - high)
    return place if letters_of(share, place, len(letters)) == letters else None


def is_shorter_row_again(letters):
    return any(letters == letters[:k] * (len(letters) // k) for k in range(1, len(letters)))


@functools.lru_cache(maxsize=None)
def rounds_by_trial(share, k):
    found = []
    for letters in all_rows(k):
        turnings = [letters[at:] + letters[:at] for at in range(k)]
        if is_shorter_row_again(letters) or any(ordered(each, letters) == 2 for each in turnings):
            continue
        if back_along(share, letters) is not None:
            found.append(letters)
    return sorted(found, key=lambda letters: letters[::-1])


def told(*places):
    return [number for place in places for number in (place.numerator, place.denominator)]


def is_row(letters):
    return 1 <= len(letters) <= 16 and set(letters) <= {0, 2}


class Model:
    """The fourteen calls, worked out on fractions."""

    def __init__(self):
        self.share = None
        self.drawn = None

    def begin(self, a, b):
        if b == 0 or b > 400 or a <= b or a > 2 * b:
            return [-22]
        self.share = Fraction(a, b)
        self.drawn = [a, b]
        return [0]

    def put(self, p, q):
        if q == 0 or q > 1000 or p > q:
            return [-22]
        place = step(self.share, Fraction(p, q))
        return [0, place.numerator, place.denominator]

    def row(self, p, q, k):
        if q == 0 or q > 1000 or p > q or k == 0 or k > 16:
            return [-22]
        return [k, *letters_of(self.share, Fraction(p, q), k)]

    def lead(self, k):
        if k == 0 or k > 16:
            return [-22]
        return [k, *letters_of(self.share, self.share / 2, k)]

    def order(self, first, second):
        if len(first) > 16 or len(second) > 16 or max([0, *first, *second]) > 2:
            return [-22]
        return [ordered(first, second)]

    def fits(self, letters):
        if not is_row(letters):
            return [-22]
        top = letters_of(self.share, self.share / 2, 16)
        return [0 if any(ordered(letters[at:], top) == 2 for at in range(1, len(letters))) else 1]

    def count(self, k):
        if k == 0 or k > 9:
            return [-22]
        return [len(rows_with_a_stretch(self.share, k))]

    def holds(self, letters):
        if not is_row(letters):
            return [-22]
        ends = stretch(self.share, letters)
        return [-33] if ends is None else [0, *told(*ends)]

    def laps(self, k):
        return self.count(k)

    def comes(self, letters):
        if not is_row(letters):
            return [-22]
        place = back_along(self.share, letters)
        return [-33] if place is None else [0, *told(place)]

    def rounds(self, k):
        if k == 0 or k > 9:
            return [-22]
        return [len(rounds_by_trial(self.share, k))]

    def round_of(self, k, j):
        if k == 0 or k > 9:
            return [-22]
        found = rounds_by_trial(self.share, k)
        return [k, *found[j]] if j < len(found) else [-33]

    def inner(self):
        a, b = self.drawn
        if self.share ** 2 > 2:
            return [-33]
        if b * b > 400:
            return [-28]
        self.begin(a * a, b * b)
        return self.state()

    def state(self):
        return list(self.drawn)

    def answer(self, name, *arguments):
        if name != "begin" and self.share is None:
            return [-11]
        return getattr(self, name)(*arguments)
