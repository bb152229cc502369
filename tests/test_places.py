import unittest

from foldedtent.leftright import answers
from tests.helper import GREATEST, Model, ask_tent, lead, put, row

SHARES = ((2, 1), (3, 2), (5, 4), (7, 5), (8, 5), (13, 8), (401, 400), (400, 399), (799, 400), (283, 200))


class Put(unittest.TestCase):
    def test_whole_list(self):
        self.assertEqual(answers([0, 3, 2, 1, 1, 3, 1, 4, 5]), [1, 0, 3, 0, 1, 2, 3, 0, 3, 10])

    def test_ends_and_middle(self):
        self.assertEqual(ask_tent(3, 2, put(0, 1), put(1, 1), put(1, 2)), [[0, 0, 1], [0, 0, 1], [0, 3, 4]])
        self.assertEqual(ask_tent(3, 2, put(0, 7), put(1000, 1000), put(500, 1000)), [[0, 0, 1], [0, 0, 1], [0, 3, 4]])

    def test_drawn_out_by_2(self):
        found = ask_tent(2, 1, put(1, 2), put(1, 1), put(1, 3), put(2, 3), put(1, 4), put(3, 4), put(2, 5))
        self.assertEqual(found, [[0, 1, 1], [0, 0, 1], [0, 2, 3], [0, 2, 3], [0, 1, 2], [0, 1, 2], [0, 4, 5]])

    def test_drawn_out_by_hardly_more_than_1(self):
        found = ask_tent(401, 400, put(1, 2), put(1, 3), put(2, 3), put(999, 1000))
        self.assertEqual(found, [[0, 401, 800], [0, 401, 1200], [0, 401, 1200], [0, 401, 400000]])

    def test_nothing_in_common(self):
        self.assertEqual(ask_tent(600, 400, put(2, 6), put(400, 1000)), [[0, 1, 2], [0, 3, 5]])

    def test_bounds(self):
        found = ask_tent(3, 2, put(0, 0), put(1, 0), put(1000, 1000), put(0, 1001), put(1001, 1001))
        self.assertEqual(found, [[-22], [-22], [0, 0, 1], [-22], [-22]])
        found = ask_tent(3, 2, put(2, 1), put(8, 7), put(7, 7), put(1001, 1000), put(0, 1000))
        self.assertEqual(found, [[-22], [-22], [0, 0, 1], [-22], [0, 0, 1]])

    def test_great_numbers(self):
        found = ask_tent(3, 2, put(GREATEST, 1), put(1, GREATEST), put(GREATEST, GREATEST), put(GREATEST, 0))
        self.assertEqual(found, [[-22]] * 4)

    def test_many_places(self):
        for a, b in SHARES:
            model = Model()
            model.begin(a, b)
            places = [(p, q) for q in (1, 2, 3, 8, 9, 401, 1000) for p in range(0, q + 1, 1 + q // 20)]
            found = ask_tent(a, b, *[put(p, q) for p, q in places])
            self.assertEqual(found, [model.put(p, q) for p, q in places], (a, b))


class Row(unittest.TestCase):
    def test_whole_list(self):
        self.assertEqual(answers([0, 3, 2, 2, 1, 3, 5, 2, 4, 5, 1]), [1, 0, 6, 5, 0, 1, 2, 0, 2, 2, 1, 2])

    def test_ends(self):
        for a, b in SHARES:
            found = ask_tent(a, b, row(0, 1, 16), row(1, 1, 16), row(0, 9, 1), row(9, 9, 1))
            self.assertEqual(found, [[16] + [0] * 16, [16, 2] + [0] * 15, [1, 0], [1, 2]], (a, b))

    def test_middle_goes_ahead_of_the_lead(self):
        for a, b in SHARES:
            middle, same, top = ask_tent(a, b, row(1, 2, 16), row(500, 1000, 16), lead(15))
            self.assertEqual(middle, same)
            self.assertEqual(middle, [16, 1] + top[1:], (a, b))

    def test_middle_is_reached(self):
        self.assertEqual(ask_tent(2, 1, row(1, 4, 5), row(3, 8, 5)), [[5, 0, 1, 2, 0, 0], [5, 0, 2, 1, 2, 0]])

    def test_place_that_stays(self):
        self.assertEqual(ask_tent(3, 2, row(3, 5, 16)), [[16] + [2] * 16])
        self.assertEqual(ask_tent(2, 1, row(2, 5, 6)), [[6, 0, 2, 0, 2, 0, 2]])

    def test_beside_the_middle(self):
        found = ask_tent(401, 400, row(499, 1000, 1), row(500, 1000, 1), row(501, 1000, 1), row(499, 999, 1))
        self.assertEqual(found, [[1, 0], [1, 1], [1, 2], [1, 0]])

    def test_bounds_of_k(self):
        found = ask_tent(3, 2, row(1, 3, 0), row(1, 3, 1), row(1, 3, 16), row(1, 3, 17), row(1, 3, GREATEST))
        whole = [16, 0, 1, 2, 0, 2, 2, 2, 2, 0, 2, 2, 2, 2, 2, 0, 2]
        self.assertEqual(found, [[-22], [1, 0], whole, [-22], [-22]])

    def test_bounds_of_the_place(self):
        found = ask_tent(3, 2, row(0, 0, 2), row(1, 0, 2), row(0, 1001, 2), row(1000, 1000, 2), row(1001, 1001, 2))
        self.assertEqual(found, [[-22], [-22], [-22], [2, 2, 0], [-22]])
        found = ask_tent(3, 2, row(4, 3, 2), row(3, 3, 2), row(GREATEST, 3, 2), row(1, GREATEST, 2))
        self.assertEqual(found, [[-22], [2, 2, 0], [-22], [-22]])

    def test_many_places(self):
        for a, b in SHARES:
            model = Model()
            model.begin(a, b)
            asked = [(p, q, k) for q in (3, 7, 800, 997) for p in range(0, q + 1, 1 + q // 20) for k in (1, 5, 16)]
            found = ask_tent(a, b, *[row(*each) for each in asked])
            self.assertEqual(found, [model.row(*each) for each in asked], (a, b))


class Lead(unittest.TestCase):
    def test_whole_list(self):
        self.assertEqual(answers([0, 3, 2, 3, 1, 3, 5]), [1, 0, 2, 1, 2, 6, 5, 2, 0, 2, 2, 2])

    def test_drawn_out_by_2(self):
        self.assertEqual(ask_tent(2, 1, lead(16)), [[16, 2] + [0] * 15])
        self.assertEqual(ask_tent(800, 400, lead(16)), [[16, 2] + [0] * 15])
        self.assertEqual(ask_tent(799, 400, lead(16)), [[16, 2, 0, 0, 0, 0, 0, 0, 0, 0, 2, 2, 2, 2, 0, 0, 2]])

    def test_drawn_out_by_hardly_more_than_1(self):
        self.assertEqual(ask_tent(401, 400, lead(16)), [[16, 2, 0, 2, 2, 2, 0, 2, 0, 2, 0, 2, 2, 2, 0, 2, 2]])

    def test_ordinary(self):
        self.assertEqual(ask_tent(3, 2, lead(16)), [[16, 2, 0, 2, 2, 2, 2, 0, 2, 2, 2, 2, 2, 0, 2, 0, 2]])
        self.assertEqual(ask_tent(8, 5, lead(10)), [[10, 2, 0, 2, 2, 0, 2, 2, 0, 2, 0]])

    def test_bounds(self):
        found = ask_tent(3, 2, lead(0), lead(1), lead(17), lead(GREATEST), lead(2))
        self.assertEqual(found, [[-22], [1, 2], [-22], [-22], [2, 2, 0]])

    def test_many_shares(self):
        for b in range(1, 401, 7):
            for a in range(b + 1, 2 * b + 1, 1 + b // 10):
                model = Model()
                model.begin(a, b)
                self.assertEqual(ask_tent(a, b, lead(16)), [model.lead(16)], (a, b))
