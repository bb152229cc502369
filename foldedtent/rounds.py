"""Places that come back along a row, and the rounds that are told by such rows."""

from foldedtent.places import row_of, shortened
from foldedtent.rows import GREATER, RIGHT, all_rows, compare


def place_put_onto_itself(a, b, row):
    """The one place that stays where it is if it's folded as the row says, whether that's its own row or not."""
    # Behind each letter the place x has come to (slope * x + start) by over.
    slope = 1
    start = 0
    over = 1
    for letter in row:
        if letter == RIGHT:
            slope = -slope
            start = over - start
        slope = slope * a
        start = start * a
        over = over * b
    # As a is more than b, the slope goes further from 0 than over: its sign alone tells that of both.
    if slope < 0:
        return (start, over - slope)
    return (-start, slope - over)


def place_back_along(a, b, row):
    """The place that comes back along the row; None if none does."""
    place = place_put_onto_itself(a, b, row)
    # A place off the line goes ever further off, so if this one has the row it's on the line.
    if row_of(a, b, place, len(row)) != row:
        return None
    return shortened(place)


def is_above_its_turnings(row):
    """Whether each turning is less than the row: a shorter row, told again and again, is alike to a turning."""
    for taken in range(1, len(row)):
        if compare(row, row[taken:] + row[:taken]) != GREATER:
            return False
    return True


def rounds_of(a, b, k):
    """The rows of all rounds of k steps, in order."""
    rows = [row for row in all_rows(k) if is_above_its_turnings(row)]
    return [row for row in rows if place_back_along(a, b, row) is not None]
