"""Places of the line as pairs (p, q), p by q, and where a tent a by b puts them."""


def common_divisor(first, second):
    """The greatest number that divides both; the other one, if one of them is 0."""
    great = first
    small = second
    while small > 0:
        rest = great % small
        great = small
        small = rest
    return great


def shortened(place):
    """The same place, with nothing in common."""
    common = common_divisor(place[0], place[1])
    return (place[0] // common, place[1] // common)


def put_once(a, b, place):
    """Where the place is put by one step, not shortened."""
    p = place[0]
    q = place[1]
    from_the_end = p if 2 * p <= q else q - p
    return (from_the_end * a, q * b)


def letter_of(place):
    """0 left of the middle, 1 on it, 2 right of it."""
    doubled = 2 * place[0]
    if doubled < place[1]:
        return 0
    if doubled == place[1]:
        return 1
    return 2


def row_of(a, b, place, k):
    """The first k letters of the place."""
    letters = []
    reached = place
    for step in range(k):
        letters.append(letter_of(reached))
        reached = put_once(a, b, reached)
    return letters


def lead_of(a, b, k):
    """The first k letters of the place onto which the middle is put."""
    return row_of(a, b, put_once(a, b, (1, 2)), k)
