"""How the tests write calls, read answers, and work out answers another way."""

from fractions import Fraction

from foldedtent.leftright import answers

GREATEST = 4294967295
HALF = Fraction(1, 2)


def begin(a, b):
    return [0, a, b]


def put(p, q):
    return [1, p, q]


def row(p, q, k):
    return [2, p, q, k]


def lead(k):
    return [3, k]


def order(first, second):
    return [4, len(first), *first, len(second), *second]


def fits(letters):
    return [5, len(letters), *letters]


def count(k):
    return [6, k]


def joined(calls):
    """The calls as the one list that is handed in."""
    return [number for call in calls for number in call]


def cut(given):
    """What was given back, answer by answer, without the counts."""
    found = []
    at = 0
    while at < len(given):
        end = at + 1 + given[at]
        found.append(given[at + 1:end])
        at = end
    if at != len(given):
        raise AssertionError("the counts don't come out even")
    return found


def ask(*calls):
    """The answers to these calls on one new object."""
    return cut(answers(joined(calls)))


def ask_tent(a, b, *calls):
    """The answers behind a begin that answers 0."""
    found = ask(begin(a, b), *calls)
    if found[0] != [0]:
        raise AssertionError("begin was refused")
    return found[1:]


def sides(text):
    """A row of 0 and 2, written as a text."""
    return [int(sign) for sign in text]


def step(share, place):
    return share * min(place, 1 - place)


def letters_of(share, place, k):
    found = []
    for _ in range(k):
        found.append(0 if place < HALF else 1 if place == HALF else 2)
        place = step(share, place)
    return found


def unturned(letters):
    """The row with each letter behind an odd number of 2 turned over, so that it compares like a word."""
    return [2 - letter if letters[:at].count(2) % 2 else letter for at, letter in enumerate(letters)]


def ordered(first, second):
    shorter = min(len(first), len(second))
    left, right = unturned(first)[:shorter], unturned(second)[:shorter]
    return 0 if left < right else 1 if left == right else 2


def rows_with_a_stretch(share, k):
    """The rows of k letters that a whole stretch has, from left to right: one for each lap."""
    folds = reached = {HALF}
    for _ in range(k - 1):
        ahead = [place / share for place in reached if place <= share / 2]
        reached = {*ahead, *[1 - place for place in ahead]}
        folds = folds | reached
    ends = sorted(folds | {Fraction(0), Fraction(1)})
    return [letters_of(share, (low + high) / 2, k) for low, high in zip(ends, ends[1:])]


class Model:
    """The seven calls, worked out on fractions."""

    def __init__(self):
        self.share = None

    def begin(self, a, b):
        if b == 0 or b > 400 or a <= b or a > 2 * b:
            return [-22]
        self.share = Fraction(a, b)
        return [0]

    def put(self, p, q):
        if q == 0 or q > 1000 or p > q:
            return [-22]
        place = step(self.share, Fraction(p, q))
        return [0, place.numerator, place.denominator]

    def row(self, p, q, k):
        if q == 0 or q > 1000 or p > q or k == 0 or k > 16:
            return [-22]
        return [k, *letters_of(self.share, Fraction(p, q), k)]

    def lead(self, k):
        if k == 0 or k > 16:
            return [-22]
        return [k, *letters_of(self.share, self.share / 2, k)]

    def order(self, first, second):
        if len(first) > 16 or len(second) > 16 or max([0, *first, *second]) > 2:
            return [-22]
        return [ordered(first, second)]

    def fits(self, letters):
        if not letters or len(letters) > 16 or set(letters) - {0, 2}:
            return [-22]
        top = letters_of(self.share, self.share / 2, 16)
        return [0 if any(ordered(letters[at:], top) == 2 for at in range(1, len(letters))) else 1]

    def count(self, k):
        if k == 0 or k > 9:
            return [-22]
        return [len(rows_with_a_stretch(self.share, k))]

    def answer(self, name, *arguments):
        if name != "begin" and self.share is None:
            return [-11]
        return getattr(self, name)(*arguments)
