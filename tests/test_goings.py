"""Which points go, in which order, and what they are worth: order, worth and shown."""

import unittest

from tests.spelling import GREATEST, ask, drop, goings, last, order, ring, shown, way, worth

HILL = ((0, 0), (10, 0), (20, 10), (30, 0), (40, 0))
SQUARE = ((100, 100), (110, 100), (110, 110), (100, 110))


class WhatMayGo(unittest.TestCase):
    def test_a_map_without_lines(self):
        self.assertEqual(last(order()), [0])

    def test_the_ends_of_an_open_line_stay(self):
        self.assertEqual(goings(way((0, 0), (5, 5))), [])
        self.assertEqual(goings(way((0, 0), (10, 10), (20, 0))), [(0, 1, 200)])

    def test_nothing_stands_between_an_open_lines_ends(self):
        self.assertEqual(goings(way((0, 0), (10, 0), (10, 10), (0, 10))), [(0, 1, 100), (0, 2, 100)])

    def test_a_ring_of_three_stays(self):
        self.assertEqual(goings(ring((0, 0), (1, 0), (0, 1))), [])

    def test_a_ring_goes_down_to_three(self):
        self.assertEqual(goings(ring(*SQUARE)), [(0, 0, 100)])

    def test_a_rings_first_and_last_point_may_go(self):
        self.assertEqual(goings(ring((50, 0), (100, 10), (50, 100), (0, 10))), [(0, 0, 1000)])
        self.assertEqual(goings(ring((100, 10), (50, 100), (0, 10), (50, 0))), [(0, 3, 1000)])
        self.assertEqual(goings(ring((0, 10), (50, 0), (100, 10), (50, 100))), [(0, 1, 1000)])

    def test_another_lines_point_within_the_triangle(self):
        self.assertEqual(goings(way((0, 0), (10, 10), (20, 0)), way((10, 2), (10, 3))), [])
        self.assertEqual(goings(way((0, 0), (10, 10), (20, 0)), way((10, 12), (10, 13))), [(0, 1, 200)])

    def test_both_ways_round_the_triangle(self):
        self.assertEqual(goings(way((20, 0), (10, 10), (0, 0)), way((10, 2), (10, 3))), [])
        self.assertEqual(goings(way((0, 20), (10, 10), (20, 20)), way((10, 18), (10, 13))), [])

    def test_another_lines_point_on_the_rim(self):
        bend = way((0, 100), (10, 110), (20, 100))
        self.assertEqual(goings(bend, way((10, 100), (10, 90))), [])
        self.assertEqual(goings(bend, way((10, 99), (10, 90))), [(0, 1, 200)])
        self.assertEqual(goings(bend, way((1, 100), (1, 90))), [])
        self.assertEqual(goings(way((20, 100), (10, 110), (0, 100)), way((10, 100), (10, 90))), [])
        self.assertEqual(goings(way((0, 100), (10, 90), (20, 100)), way((10, 100), (10, 110))), [])
        self.assertEqual(goings(bend, way((21, 100), (21, 90))), [(0, 1, 200)])

    def test_a_point_of_the_same_line_within_the_triangle(self):
        # Point 1 costs 400, the least, but the line's own end stands in its triangle till point 3 has gone.
        hook = way((0, 100), (20, 110), (40, 100), (60, 50), (20, 105))
        self.assertEqual(goings(hook), [(0, 2, 800), (0, 3, 800), (0, 1, 800)])

    def test_an_island_does_not_come_ashore(self):
        coast = ring((0, 0), (100, 0), (100, 100), (50, 90), (0, 100))
        island = ring((48, 91), (52, 91), (50, 93))
        self.assertEqual(goings(coast), [(0, 3, 1000), (0, 0, 10000)])
        self.assertEqual(goings(coast, island), [(0, 2, 5000), (0, 3, 5000)])

    def test_a_hair_beside_the_triangle(self):
        # No whole place is nearer to the straight from (0, 0) to (5, 4) than (1, 1) and (4, 3) are.
        self.assertEqual(goings(way((0, 0), (5, 0), (5, 4)), way((1, 1), (0, 1))), [(0, 1, 20)])
        self.assertEqual(goings(way((5, 4), (5, 0), (0, 0)), way((1, 1), (0, 1))), [(0, 1, 20)])
        self.assertEqual(goings(way((0, 0), (5, 0), (5, 4)), way((4, 3), (4, 2))), [])
        self.assertEqual(goings(way((5, 4), (5, 0), (0, 0)), way((4, 3), (4, 2))), [])

    def test_may_go_when_the_other_point_has_gone(self):
        bend = way((0, 100), (10, 110), (20, 100))
        other = way((0, 50), (10, 102), (20, 50))
        self.assertEqual(goings(bend, other), [(1, 1, 1040), (0, 1, 1040)])
        self.assertEqual(goings(other, bend), [(0, 1, 1040), (1, 1, 1040)])
        self.assertEqual(goings(bend, way((0, 50), (10, 102))), [])

    def test_may_go_again_when_the_other_line_is_dropped(self):
        told = ask(way((0, 0), (10, 10), (20, 0)), way((10, 2), (10, 3)), order(), drop(1), order())
        self.assertEqual(told[2:], [[0], [1], [1, 0, 1, 200]])


class TheOrder(unittest.TestCase):
    def test_the_least_price_first_of_the_points_still_there(self):
        self.assertEqual(goings(way(*HILL)), [(0, 1, 100), (0, 3, 100), (0, 2, 400)])

    def test_how_order_is_answered(self):
        self.assertEqual(last(way(*HILL), order()), [3, 0, 1, 100, 0, 3, 100, 0, 2, 400])

    def test_equal_prices_the_first_line(self):
        low = way((0, 0), (10, 10), (20, 0))
        high = way((0, 500), (10, 510), (20, 500))
        self.assertEqual(goings(low, high), [(0, 1, 200), (1, 1, 200)])
        self.assertEqual(goings(high, low), [(0, 1, 200), (1, 1, 200)])

    def test_equal_prices_the_first_line_ahead_of_the_lower_point(self):
        late = way((0, 0), (100, 300), (200, 0), (210, 40), (220, 100))
        early = way((0, 500), (10, 510), (20, 500))
        self.assertEqual(goings(late, early)[:2], [(0, 3, 200), (1, 1, 200)])

    def test_equal_prices_the_point_that_stands_first(self):
        self.assertEqual(goings(ring(*SQUARE[1:], SQUARE[0])), [(0, 0, 100)])
        self.assertEqual([i for k, i, w in goings(way((0, 0), (1, 0), (2, 0), (3, 0)))], [1, 2])

    def test_a_lower_price_of_a_later_line(self):
        self.assertEqual(goings(way((0, 0), (10, 10), (20, 0)), way((0, 500), (10, 501), (20, 500))),
                         [(1, 1, 20), (0, 1, 200)])

    def test_price_0(self):
        self.assertEqual(goings(way((0, 0), (10, 0), (20, 0))), [(0, 1, 0)])
        self.assertEqual(goings(way((0, 0), (1, 2), (3, 6), (9, 9))), [(0, 1, 0), (0, 2, 27)])
        self.assertEqual(goings(ring((0, 0), (10, 0), (20, 0), (20, 20), (0, 20))), [(0, 1, 0), (0, 0, 400)])

    def test_price_0_with_others_on_the_same_straight(self):
        for flip in (lambda x: (x, 0), lambda x: (0, x), lambda x: (x, x), lambda x: (x, 1000 - x)):
            middle = way(flip(10), flip(20), flip(30))
            self.assertEqual(goings(middle, way(flip(0), flip(9)), way(flip(31), flip(40))), [(0, 1, 0)])

    def test_a_worth_is_never_less_than_those_before(self):
        # Point 2 costs 210 at first, and 20 once point 1 has gone.
        self.assertEqual(goings(way((0, 0), (10, 10), (20, 0), (40, 1))), [(0, 1, 200), (0, 2, 200)])

    def test_the_greatest_price_is_that_of_all_lines(self):
        far = way((0, 500), (10, 510), (20, 500), (40, 501))
        near = way((0, 0), (10, 11), (20, 0))
        self.assertEqual(goings(far, near), [(0, 1, 200), (0, 2, 200), (1, 1, 220)])

    def test_the_greatest_triangle(self):
        self.assertEqual(goings(way((0, 0), (1000, 0), (1000, 1000))), [(0, 1, 1000000)])


class Worth(unittest.TestCase):
    def test_1_and_the_worth_or_0_alone(self):
        told = ask(way(*HILL), *[worth(0, i) for i in range(5)])
        self.assertEqual(told[1:], [[0], [1, 100], [1, 400], [1, 100], [0]])

    def test_a_worth_of_0_is_a_worth(self):
        self.assertEqual(last(way((0, 0), (10, 0), (20, 0)), worth(0, 1)), [1, 0])

    def test_each_line_has_its_own(self):
        lines = [way((0, 0), (10, 10), (20, 0)), way((0, 500), (10, 501), (20, 500))]
        self.assertEqual(ask(*lines, worth(0, 1), worth(1, 1))[2:], [[1, 200], [1, 20]])

    def test_no_such_line(self):
        self.assertEqual(last(worth(0, 0)), [-3])
        self.assertEqual(last(way(*HILL), worth(1, 0)), [-3])
        self.assertEqual(last(way(*HILL), worth(GREATEST, 0)), [-3])

    def test_no_such_point(self):
        self.assertEqual(last(way(*HILL), worth(0, 5)), [-4])
        self.assertEqual(last(way(*HILL), worth(0, GREATEST)), [-4])
        self.assertEqual(last(way(*HILL), way((0, 500), (9, 500)), worth(1, 2)), [-4])

    def test_no_line_is_told_ahead_of_no_point(self):
        self.assertEqual(last(way(*HILL), worth(1, 5)), [-3])


class Shown(unittest.TestCase):
    def test_at_each_edge(self):
        expected = {
            0: [0, 1, 2, 3, 4], 1: [0, 1, 2, 3, 4], 99: [0, 1, 2, 3, 4], 100: [0, 1, 2, 3, 4],
            101: [0, 2, 4], 400: [0, 2, 4], 401: [0, 4], GREATEST: [0, 4],
        }
        for t, points in expected.items():
            self.assertEqual(last(way(*HILL), shown(t, 0)), [len(points)] + points)

    def test_points_of_worth_0(self):
        flat = way((0, 0), (10, 0), (20, 0))
        self.assertEqual(ask(flat, shown(0, 0), shown(1, 0))[1:], [[3, 0, 1, 2], [2, 0, 2]])

    def test_a_ring(self):
        self.assertEqual(ask(ring(*SQUARE), shown(100, 0), shown(101, 0))[1:], [[4, 0, 1, 2, 3], [3, 1, 2, 3]])

    def test_no_such_line(self):
        self.assertEqual(last(shown(0, 0)), [-3])
        self.assertEqual(last(way(*HILL), shown(0, 1)), [-3])
        self.assertEqual(last(way(*HILL), shown(GREATEST, GREATEST)), [-3])


if __name__ == "__main__":
    unittest.main()
