"""Rows of letters: how they are compared, and which of them fit."""

LESS = 0
ALIKE = 1
GREATER = 2

LEFT = 0
RIGHT = 2


def compare(row, other):
    """LESS, ALIKE or GREATER: how the row stands to the other one."""
    turned = False
    for at in range(min(len(row), len(other))):
        if row[at] != other[at]:
            lesser_letter = row[at] < other[at]
            return LESS if lesser_letter != turned else GREATER
        if row[at] == RIGHT:
            turned = not turned
    return ALIKE


def row_fits(row, lead):
    """Whether no tail is greater than the lead, which has as many letters as the row, or more."""
    for start in range(1, len(row)):
        if compare(row[start:], lead) == GREATER:
            return False
    return True


def with_a_letter_ahead(rows):
    """All rows that are one of these behind a letter, 0 or 2."""
    longer = []
    for row in rows:
        longer.append([LEFT] + row)
        longer.append([RIGHT] + row)
    return longer


def all_rows(k):
    """All rows of 0 and 2, of k letters: where two, from their last letter on, first differ, that with 0 is first."""
    rows = [[]]
    for step in range(k):
        rows = with_a_letter_ahead(rows)
    return rows


def count_fitting(lead, k):
    """How many rows of 0 and 2, of k letters, fit; the lead has k letters or more."""
    # A row fits just if what is behind its first letter fits and isn't greater than the lead itself.
    # So rows are made from behind, and only those are kept that a letter may be put ahead of.
    kept = [[]]
    for step in range(k - 1):
        longer = with_a_letter_ahead(kept)
        kept = [row for row in longer if compare(row, lead) != GREATER]
    return len(with_a_letter_ahead(kept))
