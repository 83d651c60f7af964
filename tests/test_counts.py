"""Point 2: how many points are shown, counts, and at which scale they are few enough, few."""

import unittest

from plainerlines.maps import answers
from tests.spelling import GREATEST, ask, behind, counts, drop, few, goings, last, order, ring, shown, way

# Of the hill points 1 and 3 are worth 100 and point 2 is worth 400; of the square, point 0 is worth 100.
HILL = way((0, 0), (10, 0), (20, 10), (30, 0), (40, 0))
SQUARE = ring((100, 100), (110, 100), (110, 110), (100, 110))
FLAT = way((0, 200), (10, 200), (20, 200))
SHORT = way((0, 300), (10, 300))
TRIANGLE = ring((200, 0), (210, 0), (200, 10))


class Counts(unittest.TestCase):
    def test_no_lines_no_numbers(self):
        self.assertEqual(answers([5, 0]), [0])
        self.assertEqual(answers([5, GREATEST]), [0])
        self.assertEqual(answers([5, 7, 2, 5, 7]), [0, 1, 0, 0])

    def test_no_lines_any_more(self):
        self.assertEqual(ask(SHORT, drop(0), counts(0)), [[0], [0], []])

    def test_only_refused_lines(self):
        self.assertEqual(ask(way((1, 1)), counts(0)), [[-1], []])

    def test_one_open_line(self):
        expected = {0: 5, 1: 5, 99: 5, 100: 5, 101: 3, 102: 3, 399: 3, 400: 3, 401: 2, GREATEST: 2}
        for t, count in expected.items():
            self.assertEqual(last(HILL, counts(t)), [count])

    def test_one_ring(self):
        expected = {0: 4, 99: 4, 100: 4, 101: 3, GREATEST: 3}
        for t, count in expected.items():
            self.assertEqual(last(SQUARE, counts(t)), [count])

    def test_several_lines_in_order(self):
        expected = {0: [5, 4, 3, 2], 1: [5, 4, 2, 2], 100: [5, 4, 2, 2], 101: [3, 3, 2, 2], 401: [2, 3, 2, 2]}
        for t, row in expected.items():
            self.assertEqual(last(HILL, SQUARE, FLAT, SHORT, counts(t)), row)
            self.assertEqual(last(SHORT, FLAT, SQUARE, HILL, counts(t)), row[::-1])

    def test_a_worth_of_0(self):
        self.assertEqual(behind([FLAT], counts(0), counts(1)), [[3], [2]])

    def test_the_worth_counts_and_not_the_price(self):
        # Point 2 costs 20 when it goes, but point 1, worth 200, has gone before it.
        line = way((0, 0), (10, 10), (20, 0), (40, 1))
        self.assertEqual(behind([line], counts(21), counts(200), counts(201)), [[4], [4], [2]])

    def test_lines_hold_one_another(self):
        bend = way((0, 0), (10, 10), (20, 0))
        within = way((10, 2), (10, 3))
        self.assertEqual(ask(bend, within, counts(201), drop(1), counts(201))[2:], [[3, 2], [1], [2]])

    def test_behind_a_drop(self):
        self.assertEqual(ask(HILL, SQUARE, SHORT, counts(101), drop(0), counts(101))[3:], [[3, 3, 2], [2], [3, 2]])

    def test_it_agrees_with_shown(self):
        lines = [HILL, SQUARE, FLAT, TRIANGLE]
        for t in (0, 1, 99, 100, 101, 399, 400, 401, 1000000, GREATEST):
            rows = behind(lines, counts(t), *[shown(t, k) for k in range(4)])
            self.assertEqual(rows[0], [row[0] for row in rows[1:]])


class Few(unittest.TestCase):
    def test_no_lines(self):
        for n in (0, 1, GREATEST):
            self.assertEqual(last(few(n)), [0])

    def test_no_lines_any_more(self):
        self.assertEqual(ask(SHORT, few(0), drop(0), few(0))[1:], [[-7], [0], [0]])

    def test_none_at_all(self):
        for lines in ([SHORT], [TRIANGLE], [HILL], [HILL, SQUARE]):
            self.assertEqual(behind(lines, few(0)), [[-7]])

    def test_as_many_as_all_points_and_more(self):
        for n in (5, 6, 100, GREATEST):
            self.assertEqual(last(HILL, few(n)), [0])
        for n in (14, 15, GREATEST):
            self.assertEqual(last(HILL, SQUARE, FLAT, SHORT, few(n)), [0])

    def test_one_less_than_all_points(self):
        self.assertEqual(last(HILL, few(4)), [101])
        self.assertEqual(last(HILL, SQUARE, FLAT, SHORT, few(13)), [1])

    def test_points_of_one_worth_go_together(self):
        self.assertEqual(behind([HILL], few(4), few(3)), [[101], [101]])
        self.assertEqual(behind([HILL, SQUARE], few(8), few(7), few(6)), [[101], [101], [101]])

    def test_points_of_several_worths(self):
        told = behind([HILL, SQUARE, FLAT, SHORT], *[few(n) for n in range(14, 7, -1)])
        self.assertEqual(told, [[0], [1], [101], [101], [101], [401], [-7]])

    def test_the_least_that_can_be_reached_and_one_less(self):
        self.assertEqual(behind([HILL], few(2), few(1)), [[401], [-7]])
        self.assertEqual(behind([SQUARE], few(3), few(2)), [[101], [-7]])
        self.assertEqual(behind([HILL, SQUARE], few(5), few(4)), [[401], [-7]])
        self.assertEqual(behind([SHORT], few(2), few(1)), [[0], [-7]])
        self.assertEqual(behind([TRIANGLE], few(3), few(2)), [[0], [-7]])

    def test_a_point_that_is_held_stays(self):
        bend = way((0, 0), (10, 10), (20, 0))
        within = way((10, 2), (10, 3))
        self.assertEqual(ask(bend, within, few(4), few(5), drop(1), few(2))[2:], [[-7], [0], [1], [201]])

    def test_a_worth_of_0(self):
        self.assertEqual(behind([FLAT], few(3), few(2), few(1)), [[0], [1], [-7]])

    def test_the_greatest_worth(self):
        self.assertEqual(last(way((0, 0), (1000, 0), (1000, 1000)), few(2)), [1000001])

    def test_no_more_at_that_t_and_more_at_one_less(self):
        lines = [HILL, SQUARE, FLAT, TRIANGLE]
        for n in range(10, 15):
            t = behind(lines, few(n))[0][0]
            rows = behind(lines, counts(t), counts(t - 1))
            self.assertLessEqual(sum(rows[0]), n)
            self.assertGreater(sum(rows[1]), n)

    def test_it_leaves_the_order_as_it_was(self):
        rows = behind([HILL, SQUARE], order(), few(5), few(0), order())
        self.assertEqual(rows[0], rows[3])
        self.assertEqual(goings(HILL, SQUARE, few(5)), [(0, 1, 100), (0, 3, 100), (1, 0, 100), (0, 2, 400)])


if __name__ == "__main__":
    unittest.main()
