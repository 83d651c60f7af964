"""Point 2: a ring as it is shown: its area, and how often it goes round a place (the call round)."""

import unittest

from tests.spelling import GREATEST, area, ask, behind, drop, last, ring, turns, way

# Point 0 of the square is worth 100, the other three stay.
SQUARE = ((100, 100), (110, 100), (110, 110), (100, 110))
DIAMOND = ((110, 100), (120, 110), (110, 120), (100, 110))
STAIR = ((100, 100), (130, 100), (130, 110), (120, 110), (120, 120), (100, 120))
CROWN = ((100, 100), (140, 100), (140, 120), (130, 110), (120, 120), (110, 110), (100, 120))
# Point 3, the notch, is worth 1000, and point 0 is worth 10000.
NOTCHED = ((0, 0), (100, 0), (100, 100), (50, 90), (0, 100))
ISLAND = ((48, 91), (52, 91), (50, 93))
WAY = way((500, 500), (510, 510), (520, 500))


def back(points):
    return tuple(reversed(points))


class Area(unittest.TestCase):
    def test_both_ways_round(self):
        expected = {
            SQUARE: 200, DIAMOND: 400, STAIR: 1000, CROWN: 1200, NOTCHED: 19000, ISLAND: 8, ((0, 0), (1, 0), (0, 1)): 1,
            ((0, 0), (1000, 0), (1000, 1000), (0, 1000)): 2000000, ((1000, 1000), (999, 1000), (1000, 999)): 1,
        }
        for points, doubled in expected.items():
            self.assertEqual(last(ring(*points), area(0, 0)), [0, doubled])
            self.assertEqual(last(ring(*back(points)), area(0, 0)), [0, -doubled])

    def test_whichever_point_stands_first(self):
        for i in range(len(NOTCHED)):
            self.assertEqual(last(ring(*NOTCHED[i:], *NOTCHED[:i]), area(0, 0)), [0, 19000])

    def test_as_shown_at_t(self):
        expected = {0: 200, 99: 200, 100: 200, 101: 100, GREATEST: 100}
        for t, doubled in expected.items():
            self.assertEqual(last(ring(*SQUARE), area(t, 0)), [0, doubled])
            self.assertEqual(last(ring(SQUARE[0], *back(SQUARE[1:])), area(t, 0)), [0, -doubled])

    def test_it_grows_where_a_notch_goes(self):
        told = behind([ring(*NOTCHED)], *[area(t, 0) for t in (1000, 1001, 10000, 10001)])
        self.assertEqual(told, [[0, 19000], [0, 20000], [0, 20000], [0, 10000]])

    def test_the_last_point_may_be_left_out(self):
        points = (*SQUARE[1:], SQUARE[0])
        cheap_last = ((100, 10), (50, 100), (0, 10), (50, 0))
        self.assertEqual(behind([ring(*points)], area(100, 0), area(101, 0)), [[0, 200], [0, 100]])
        self.assertEqual(behind([ring(*cheap_last)], area(0, 0), area(1001, 0)), [[0, 10000], [0, 9000]])

    def test_another_line_holds_its_points(self):
        told = ask(ring(*NOTCHED), ring(*ISLAND), area(5001, 0), area(5001, 1), drop(1), area(5001, 0))
        self.assertEqual(told[2:], [[0, 10000], [0, 8], [1], [0, 20000]])

    def test_the_ring_that_is_asked(self):
        lines = [WAY, ring(*SQUARE), ring(*back(ISLAND))]
        self.assertEqual(behind(lines, area(0, 1), area(0, 2), drop(0), area(0, 0), area(0, 1)),
                         [[0, 200], [0, -8], [2], [0, 200], [0, -8]])

    def test_no_such_line(self):
        self.assertEqual(last(area(0, 0)), [-3])
        for k in (1, 2, GREATEST):
            self.assertEqual(last(ring(*SQUARE), area(0, k)), [-3])
        self.assertEqual(ask(ring(*SQUARE), drop(0), area(0, 0))[2], [-3])

    def test_no_ring(self):
        for t in (0, 201, GREATEST):
            self.assertEqual(last(WAY, area(t, 0)), [-4])
        self.assertEqual(behind([ring(*SQUARE), WAY], area(0, 1), area(0, 0)), [[-4], [0, 200]])

    def test_an_open_line_of_a_rings_points_is_no_ring(self):
        self.assertEqual(last(way(*SQUARE), area(0, 0)), [-4])

    def test_no_line_is_told_ahead_of_no_ring(self):
        self.assertEqual(behind([WAY], area(0, 1), area(GREATEST, GREATEST)), [[-3], [-3]])


class Round(unittest.TestCase):
    def answered(self, points, t, expected):
        """What is expected of a counterclockwise ring at each place; of the same ring clockwise it is less."""
        for (x, y), times in expected.items():
            there = [-6] if times is None else [0, times]
            back_there = [-6] if times is None else [0, -times]
            self.assertEqual(last(ring(*points), turns(t, 0, x, y)), there, (x, y))
            self.assertEqual(last(ring(points[0], *back(points[1:])), turns(t, 0, x, y)), back_there, (x, y))

    def test_inside_and_outside(self):
        self.answered(SQUARE, 0, {
            (105, 105): 1, (101, 101): 1, (109, 109): 1, (101, 109): 1, (109, 101): 1,
            (105, 99): 0, (105, 111): 0, (99, 105): 0, (111, 105): 0, (0, 0): 0, (1000, 1000): 0, (99, 99): 0,
            (111, 111): 0, (99, 111): 0, (111, 99): 0,
        })

    def test_whichever_point_stands_first(self):
        for i in range(4):
            self.answered(SQUARE[i:] + SQUARE[:i], 0, {(105, 105): 1, (99, 105): 0, (111, 105): 0, (100, 105): None})

    def test_level_with_a_point_where_it_goes_on(self):
        self.answered(DIAMOND, 0, {(110, 110): 1, (101, 110): 1, (119, 110): 1, (99, 110): 0, (121, 110): 0})

    def test_level_with_its_highest_and_lowest_point(self):
        self.answered(DIAMOND, 0, {(109, 120): 0, (111, 120): 0, (109, 100): 0, (111, 100): 0, (0, 100): 0, (0, 120): 0})

    def test_level_with_points_where_it_turns_back(self):
        self.answered(CROWN, 0, {
            (105, 110): 1, (120, 110): 1, (135, 110): 1, (99, 110): 0, (141, 110): 0,
            (110, 120): 0, (130, 120): 0, (99, 120): 0, (141, 120): 0, (110, 111): 0, (120, 119): 1,
        })
        self.answered(tuple((x, 220 - y) for x, y in back(CROWN)), 0, {
            (105, 110): 1, (120, 110): 1, (135, 110): 1, (99, 110): 0, (141, 110): 0,
            (110, 100): 0, (130, 100): 0, (99, 100): 0, (141, 100): 0, (110, 109): 0, (120, 101): 1,
        })

    def test_level_with_a_stretch_that_runs_level(self):
        self.answered(STAIR, 0, {
            (110, 110): 1, (119, 110): 1, (99, 110): 0, (131, 110): 0, (125, 110): None,
            (99, 100): 0, (131, 100): 0, (115, 100): None, (99, 120): 0, (121, 120): 0, (110, 120): None,
        })
        self.answered(tuple((220 - x, 220 - y) for x, y in STAIR), 0, {
            (110, 110): 1, (101, 110): 1, (121, 110): 0, (89, 110): 0, (95, 110): None,
            (99, 100): 0, (121, 100): 0, (110, 100): None, (89, 120): 0, (121, 120): 0, (105, 120): None,
        })

    def test_beside_a_point_of_a_level_stretch_on_its_straight(self):
        self.answered(SQUARE, 0, {(99, 100): 0, (111, 100): 0, (99, 110): 0, (111, 110): 0, (100, 99): 0, (110, 111): 0})

    def test_at_one_of_its_points(self):
        for points in (SQUARE, DIAMOND, STAIR, CROWN):
            self.answered(points, 0, {point: None for point in points})

    def test_on_one_of_its_stretches(self):
        self.answered(SQUARE, 0, {(105, 100): None, (110, 105): None, (105, 110): None, (100, 105): None})
        self.answered(DIAMOND, 0, {(115, 105): None, (115, 115): None, (105, 115): None, (105, 105): None})

    def test_a_hair_beside_a_stretch(self):
        # No whole place is nearer to the stretch from (5, 4) to (0, 0) than (1, 1) and (4, 3) are.
        self.answered(((0, 0), (5, 0), (5, 4)), 0, {(4, 3): 1, (1, 1): 0})

    def test_on_a_stretchs_straight_but_beyond_it(self):
        self.answered(DIAMOND, 0, {(121, 111): 0, (99, 109): 0, (130, 120): 0, (90, 120): 0})

    def test_at_the_maps_edge(self):
        whole = ((0, 0), (1000, 0), (1000, 1000), (0, 1000))
        self.answered(whole, 0, {(0, 0): None, (0, 7): None, (7, 0): None, (1000, 1000): None, (1, 1): 1, (999, 999): 1})
        self.answered(whole, 0, {(1001, 500): 0, (500, 1001): 0, (1001, 0): 0, (0, 1001): 0, (1001, 1001): 0})

    def test_far_beyond_1000(self):
        far = (1001, 4000, 2147483647, 2147483648, GREATEST)
        for points in (SQUARE, DIAMOND, CROWN):
            self.answered(points, 0, {(x, y): 0 for x in far for y in (0, 100, 105, 110, 120, 1000)})
            self.answered(points, 0, {(x, y): 0 for y in far for x in (0, 100, 105, 110, 120, 1000)})
            self.answered(points, 0, {(x, x): 0 for x in far})

    def test_on_it_at_one_t_and_not_at_another(self):
        self.answered(SQUARE, 100, {(100, 100): None, (105, 100): None, (100, 105): None, (105, 105): 1})
        self.answered(SQUARE, 101, {(100, 100): 0, (105, 100): 0, (100, 105): 0, (105, 105): None})

    def test_the_answer_differs_between_two_t(self):
        self.answered(SQUARE, 100, {(102, 102): 1, (108, 108): 1})
        self.answered(SQUARE, 101, {(102, 102): 0, (108, 108): 1})
        self.answered(SQUARE, GREATEST, {(102, 102): 0, (108, 108): 1})

    def test_a_notch_that_goes(self):
        expected = {1000: ([0, 0], [0, 1]), 1001: ([0, 1], [0, 1]), 10000: ([0, 1], [0, 1]), 10001: ([0, 1], [0, 0])}
        for t, (in_the_notch, near_point_0) in expected.items():
            self.assertEqual(behind([ring(*NOTCHED)], turns(t, 0, 50, 95), turns(t, 0, 10, 10)),
                             [in_the_notch, near_point_0])

    def test_an_island_does_not_come_ashore(self):
        for t in (0, 1000, 1001, 5000, 5001, 10001, GREATEST):
            for x, y in ISLAND:
                self.assertEqual(last(ring(*NOTCHED), ring(*ISLAND), turns(t, 0, x, y)), [0, 0])

    def test_a_place_on_another_line_is_a_place_like_others(self):
        self.assertEqual(behind([ring(*SQUARE), way((102, 102), (102, 104))], turns(0, 0, 102, 103)), [[0, 1]])

    def test_the_ring_that_is_asked(self):
        around = ring((90, 90), (90, 130), (130, 130), (130, 90))
        self.assertEqual(behind([WAY, ring(*SQUARE), around], turns(0, 1, 105, 105), turns(0, 2, 105, 105),
                                turns(0, 1, 95, 95), turns(0, 2, 95, 95), drop(0), turns(0, 1, 95, 95)),
                         [[0, 1], [0, -1], [0, 0], [0, -1], [2], [0, -1]])

    def test_no_such_line(self):
        self.assertEqual(last(turns(0, 0, 5, 5)), [-3])
        for k in (1, 2, GREATEST):
            self.assertEqual(last(ring(*SQUARE), turns(0, k, 105, 105)), [-3])
        self.assertEqual(ask(ring(*SQUARE), drop(0), turns(0, 0, 105, 105))[2], [-3])

    def test_no_ring(self):
        for t in (0, 201, GREATEST):
            self.assertEqual(last(WAY, turns(t, 0, 510, 505)), [-4])
        self.assertEqual(last(way(*SQUARE), turns(0, 0, 105, 105)), [-4])

    def test_of_several_the_one_told_first(self):
        self.assertEqual(last(WAY, turns(0, 0, 500, 500)), [-4])
        self.assertEqual(last(WAY, turns(0, 1, 500, 500)), [-3])
        self.assertEqual(last(ring(*SQUARE), turns(0, 1, 100, 100)), [-3])
        self.assertEqual(last(ring(*SQUARE), WAY, turns(0, 1, 105, 100)), [-4])
        self.assertEqual(last(turns(GREATEST, GREATEST, GREATEST, GREATEST)), [-3])


if __name__ == "__main__":
    unittest.main()
