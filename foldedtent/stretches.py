"""Stretches of the line: which one has a row, and how many laps the folds make."""

from foldedtent.places import shortened
from foldedtent.rows import LEFT


def stretch_of(a, b, row):
    """The two ends of the stretch that has the row, from left to right; None if no stretch has it."""
    # From the last letter on: low by q and high by q are the ends for what is behind the letter.
    low = 0
    high = 2
    q = 2
    for letter in reversed(row):
        q = q * a
        near = low * b
        far = min(high * b, q // 2)
        if near >= far:
            return None
        low = near if letter == LEFT else q - far
        high = far if letter == LEFT else q - near
    return (shortened((low, q)), shortened((high, q)))


def places_before(a, b, places):
    """All places that one step puts onto one of these; where the middle is put isn't among these."""
    before = []
    for place in places:
        p = place[0] * b
        q = place[1] * a
        if 2 * p < q:
            before.append((p, q))
            before.append((q - p, q))
    return before


def count_laps(a, b, k):
    """Into how many laps the line is folded by k steps."""
    # The middle never comes back onto itself: a, with nothing in common with b, would divide a power of b.
    # So no place comes onto it twice, and what is found with each step is new.
    reached = [(1, 2)]
    folds = 1
    for step in range(k - 1):
        reached = places_before(a, b, reached)
        folds = folds + len(reached)
    return folds + 1
