"""Calls on one tent, answered in order."""

from foldedtent.calls import BEGIN, COMES, COUNT, FITS, HOLDS, INNER, LAPS, LEAD, ORDER, PUT, ROUND_OF, ROUNDS, ROW
from foldedtent.calls import cut_calls
from foldedtent.places import lead_of, put_once, row_of, shortened
from foldedtent.rounds import place_back_along, rounds_of
from foldedtent.rows import LEFT, RIGHT, compare, count_fitting, row_fits
from foldedtent.stretches import count_laps, stretch_of

NOT_BEGUN = -11
NOT_AS_TOLD = -22
TOO_MANY = -28
THERE_IS_NONE = -33

MOST_B = 400
MOST_Q = 1000
MOST_LETTERS = 16
MOST_STEPS = 9


class Tent:
    """By how much the line is drawn out: a by b. While b is 0 nothing is begun."""

    def __init__(self):
        self.a = 0
        self.b = 0


def is_place(p, q):
    return 1 <= q <= MOST_Q and p <= q


def is_length(k):
    return 1 <= k <= MOST_LETTERS


def is_number_of_steps(k):
    return 1 <= k <= MOST_STEPS


def is_row_to_order(row):
    return len(row) <= MOST_LETTERS and all([letter <= RIGHT for letter in row])


def is_row_of_sides(row):
    return is_length(len(row)) and all([letter in (LEFT, RIGHT) for letter in row])


def answer_begin(tent, a, b):
    if not (1 <= b <= MOST_B and b < a <= 2 * b):
        return [NOT_AS_TOLD]
    tent.a = a
    tent.b = b
    return [0]


def answer_put(tent, p, q):
    if not is_place(p, q):
        return [NOT_AS_TOLD]
    place = shortened(put_once(tent.a, tent.b, (p, q)))
    return [0, place[0], place[1]]


def answer_row(tent, p, q, k):
    if not (is_place(p, q) and is_length(k)):
        return [NOT_AS_TOLD]
    return [k] + row_of(tent.a, tent.b, (p, q), k)


def answer_lead(tent, k):
    if not is_length(k):
        return [NOT_AS_TOLD]
    return [k] + lead_of(tent.a, tent.b, k)


def answer_order(row, other):
    if not (is_row_to_order(row) and is_row_to_order(other)):
        return [NOT_AS_TOLD]
    return [compare(row, other)]


def answer_fits(tent, row):
    if not is_row_of_sides(row):
        return [NOT_AS_TOLD]
    lead = lead_of(tent.a, tent.b, len(row))
    return [1 if row_fits(row, lead) else 0]


def answer_holds(tent, row):
    if not is_row_of_sides(row):
        return [NOT_AS_TOLD]
    ends = stretch_of(tent.a, tent.b, row)
    if ends is None:
        return [THERE_IS_NONE]
    return [0] + list(ends[0]) + list(ends[1])


def answer_comes(tent, row):
    if not is_row_of_sides(row):
        return [NOT_AS_TOLD]
    place = place_back_along(tent.a, tent.b, row)
    if place is None:
        return [THERE_IS_NONE]
    return [0] + list(place)


def answer_count(tent, k):
    if not is_number_of_steps(k):
        return [NOT_AS_TOLD]
    return [count_fitting(lead_of(tent.a, tent.b, k), k)]


def answer_laps(tent, k):
    if not is_number_of_steps(k):
        return [NOT_AS_TOLD]
    return [count_laps(tent.a, tent.b, k)]


def answer_rounds(tent, k):
    if not is_number_of_steps(k):
        return [NOT_AS_TOLD]
    return [len(rounds_of(tent.a, tent.b, k))]


def answer_round_of(tent, k, j):
    if not is_number_of_steps(k):
        return [NOT_AS_TOLD]
    rows = rounds_of(tent.a, tent.b, k)
    if j >= len(rows):
        return [THERE_IS_NONE]
    return [k] + rows[j]


def answer_inner(tent):
    a = tent.a * tent.a
    b = tent.b * tent.b
    if a > 2 * b:
        return [THERE_IS_NONE]
    if b > MOST_B:
        return [TOO_MANY]
    tent.a = a
    tent.b = b
    return answer_state(tent)


def answer_state(tent):
    return [tent.a, tent.b]


def answer_begun(tent, call):
    """What a call other than begin answers on a tent that is begun."""
    number = call.number
    numbers = call.numbers
    rows = call.rows
    if number == PUT:
        return answer_put(tent, numbers[0], numbers[1])
    if number == ROW:
        return answer_row(tent, numbers[0], numbers[1], numbers[2])
    if number == LEAD:
        return answer_lead(tent, numbers[0])
    if number == ORDER:
        return answer_order(rows[0], rows[1])
    if number == FITS:
        return answer_fits(tent, rows[0])
    if number == COUNT:
        return answer_count(tent, numbers[0])
    if number == HOLDS:
        return answer_holds(tent, rows[0])
    if number == LAPS:
        return answer_laps(tent, numbers[0])
    if number == COMES:
        return answer_comes(tent, rows[0])
    if number == ROUNDS:
        return answer_rounds(tent, numbers[0])
    if number == ROUND_OF:
        return answer_round_of(tent, numbers[0], numbers[1])
    if number == INNER:
        return answer_inner(tent)
    return answer_state(tent)


def answer_call(tent, call):
    if call.number == BEGIN:
        return answer_begin(tent, call.numbers[0], call.numbers[1])
    if tent.b == 0:
        return [NOT_BEGUN]
    return answer_begun(tent, call)


def answers(calls):
    """For each call, in order: how many numbers it answers, then these."""
    tent = Tent()
    given = []
    for call in cut_calls(calls):
        answer = answer_call(tent, call)
        given.append(len(answer))
        given.extend(answer)
    return given
