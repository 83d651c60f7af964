"""Point 1: which lines are taken, which refused, and how; drop."""

import unittest

from tests.spelling import (
    GREATEST, area, ask, counts, drop, few, last, line, order, raw_line, ring, shown, turns, way, worth,
)

SQUARE = ((100, 100), (200, 100), (200, 200), (100, 200))


def comb(count):
    """An open line of that many points that goes up and down and never meets itself."""
    return [(10 * i, 10 * (i % 2)) for i in range(count)]


def apart(k):
    """A short open line that has nothing in common with another of these."""
    return way((0, 500 + k), (10, 500 + k))


class Taken(unittest.TestCase):
    def test_numbers_count_from_0_for_both_kinds(self):
        self.assertEqual(ask(way((0, 0), (5, 5)), ring(*SQUARE), apart(0), apart(1)), [[0], [1], [2], [3]])

    def test_fewest_points(self):
        self.assertEqual(last(way((0, 0), (1000, 1000))), [0])
        self.assertEqual(last(ring((0, 0), (1000, 0), (0, 1000))), [0])

    def test_most_points(self):
        self.assertEqual(last(way(*comb(12))), [0])
        self.assertEqual(last(ring(*comb(11), (0, 500))), [0])

    def test_both_ways_round(self):
        self.assertEqual(last(ring(*SQUARE)), [0])
        self.assertEqual(last(ring(*reversed(SQUARE))), [0])

    def test_straight_on_is_no_fault(self):
        self.assertEqual(last(way((0, 0), (10, 10), (20, 20), (21, 21))), [0])
        self.assertEqual(last(ring((0, 0), (10, 0), (20, 0), (10, 10))), [0])
        self.assertEqual(last(ring((10, 0), (20, 0), (10, 10), (0, 0))), [0])

    def test_a_ring_within_a_ring(self):
        inner = ring((120, 120), (180, 120), (150, 180))
        self.assertEqual(ask(ring(*SQUARE), inner), [[0], [1]])


class NotGranted(unittest.TestCase):
    def test_first_number_above_1(self):
        for first in (2, 3, GREATEST):
            self.assertEqual(last(line(first, *SQUARE)), [-1])

    def test_odd_count(self):
        self.assertEqual(last(raw_line(0, [0, 0, 5, 5, 9])), [-1])
        self.assertEqual(last(raw_line(1, [0, 0, 5, 0, 5, 5, 1])), [-1])
        self.assertEqual(last(raw_line(0, [7])), [-1])

    def test_too_few_points(self):
        self.assertEqual(last(raw_line(0, [])), [-1])
        self.assertEqual(last(raw_line(1, [])), [-1])
        self.assertEqual(last(way((3, 3))), [-1])
        self.assertEqual(last(ring((3, 3))), [-1])
        self.assertEqual(last(ring((3, 3), (6, 3))), [-1])

    def test_too_many_points(self):
        self.assertEqual(last(way(*comb(13))), [-1])
        self.assertEqual(last(way(*comb(20))), [-1])
        self.assertEqual(last(ring(*comb(12), (0, 500))), [-1])
        self.assertEqual(last(raw_line(0, [number for point in comb(13) for number in point][:25])), [-1])

    def test_number_above_1000(self):
        for place in ((1001, 0), (0, 1001), (GREATEST, 5), (5, GREATEST)):
            self.assertEqual(last(way((5, 5), place)), [-1])
            self.assertEqual(last(way(place, (5, 5))), [-1])
            self.assertEqual(last(ring((5, 5), place, (9, 20))), [-1])


class NotSound(unittest.TestCase):
    def test_two_points_at_one_place(self):
        self.assertEqual(last(way((5, 5), (5, 5))), [-2])
        self.assertEqual(last(way((0, 0), (10, 0), (10, 10), (0, 0))), [-2])
        self.assertEqual(last(way((0, 0), (10, 0), (10, 0), (20, 5))), [-2])
        self.assertEqual(last(ring((0, 0), (10, 0), (10, 10), (0, 0))), [-2])
        self.assertEqual(last(ring((0, 0), (10, 0), (0, 0))), [-2])

    def test_stretches_that_cross(self):
        self.assertEqual(last(way((0, 0), (10, 10), (10, 0), (0, 10))), [-2])
        self.assertEqual(last(ring((0, 0), (10, 10), (10, 0), (0, 10))), [-2])
        self.assertEqual(last(way((0, 0), (10, 10), (10, 0), (6, 4))), [0])

    def test_stretches_that_touch(self):
        self.assertEqual(last(way((0, 0), (20, 0), (20, 10), (10, 0))), [-2])
        self.assertEqual(last(way((10, 0), (20, 10), (20, 0), (0, 0))), [-2])
        self.assertEqual(last(way((0, 0), (20, 0), (20, 10), (10, 1))), [0])

    def test_stretches_along_one_another(self):
        self.assertEqual(last(way((0, 0), (20, 0), (30, 10), (30, 0), (15, 0))), [-2])

    def test_stretches_on_one_straight_but_apart(self):
        self.assertEqual(last(way((0, 0), (20, 0), (30, 10), (40, 0), (50, 0))), [0])

    def test_running_back_over_the_one_before(self):
        self.assertEqual(last(way((0, 0), (20, 0), (10, 0))), [-2])
        self.assertEqual(last(way((10, 10), (20, 20), (0, 0))), [-2])
        self.assertEqual(last(way((5, 0), (5, 9), (5, 3), (7, 3))), [-2])
        self.assertEqual(last(way((0, 0), (20, 0), (10, 1))), [0])

    def test_running_back_among_later_stretches(self):
        self.assertEqual(last(way((0, 0), (0, 20), (20, 20), (10, 20))), [-2])
        self.assertEqual(last(way((0, 0), (0, 20), (10, 20), (5, 20), (5, 5))), [-2])

    def test_the_last_stretch_of_a_ring_crosses(self):
        points = ((0, 0), (20, 0), (20, 20), (10, 20), (10, 30), (0, 30), (30, 31))
        self.assertEqual(last(way(*points)), [0])
        self.assertEqual(last(ring(*points)), [-2])

    def test_the_last_stretch_of_a_ring_touches(self):
        points = ((0, 0), (20, 0), (10, 10), (30, 0), (20, 20))
        self.assertEqual(last(way(*points)), [0])
        self.assertEqual(last(ring(*points)), [-2])

    def test_the_last_stretch_of_a_ring_runs_back_over_the_one_before(self):
        points = ((0, 0), (10, 10), (10, 0), (20, 0))
        self.assertEqual(last(way(*points)), [0])
        self.assertEqual(last(ring(*points)), [-2])

    def test_the_last_stretch_of_a_ring_runs_back_over_the_first(self):
        for points in (((0, 0), (20, 0), (20, 20), (10, 10), (10, 0)), ((0, 0), (10, 0), (10, 10), (20, 0))):
            self.assertEqual(last(ring(*points)), [-2])
        self.assertEqual(last(way((0, 0), (10, 0), (10, 10), (20, 0))), [0])

    def test_a_flat_ring(self):
        for points in (((0, 0), (10, 0), (20, 0)), ((10, 0), (20, 0), (0, 0)), ((20, 0), (0, 0), (10, 0))):
            self.assertEqual(last(ring(*points)), [-2])
        self.assertEqual(last(way((0, 0), (10, 0), (20, 0))), [0])


class LinesMeet(unittest.TestCase):
    def refused(self, first, second):
        self.assertEqual(ask(first, second), [[0], [-6]])
        self.assertEqual(ask(second, first), [[0], [-6]])

    def test_crossing(self):
        self.refused(way((0, 0), (10, 10)), way((0, 10), (10, 0)))
        self.refused(ring(*SQUARE), way((150, 150), (150, 250)))

    def test_crossing_at_no_whole_place(self):
        self.refused(way((0, 0), (3, 2)), way((0, 1), (3, 0)))
        self.refused(way((0, 0), (1, 1)), way((0, 1), (1, 0)))

    def test_crossing_the_last_stretch_of_a_ring(self):
        self.refused(ring(*SQUARE), way((90, 150), (110, 150)))

    def test_touching_in_a_point(self):
        self.refused(way((0, 0), (10, 0)), way((5, 0), (5, 9)))
        self.refused(way((0, 0), (10, 0)), way((10, 0), (20, 9)))
        self.refused(way((0, 0), (10, 0)), way((2, 2), (5, 0), (9, 9)))
        self.refused(way((0, 0), (10, 0)), way((10, 0), (20, 0)))

    def test_lying_along(self):
        self.refused(way((0, 0), (10, 0)), way((5, 0), (15, 0)))
        self.refused(way((0, 0), (10, 10)), way((2, 2), (7, 7)))
        self.refused(way((0, 0), (10, 10)), way((0, 0), (10, 10)))
        self.refused(ring(*SQUARE), ring(*SQUARE))

    def test_near_but_apart(self):
        self.assertEqual(ask(way((0, 0), (10, 0)), way((5, 1), (5, 9))), [[0], [1]])
        self.assertEqual(ask(way((0, 0), (10, 0)), way((11, 0), (20, 0))), [[0], [1]])
        self.assertEqual(ask(way((0, 0), (10, 10)), way((11, 10), (1, 0))), [[0], [1]])
        self.assertEqual(ask(way((0, 0), (10, 0)), way((15, 0), (15, 9))), [[0], [1]])

    def test_any_of_the_lines_there(self):
        for k in range(3):
            self.assertEqual(last(apart(0), apart(10), apart(20), way((5, 500 + 10 * k), (5, 495 + 10 * k))), [-6])

    def test_any_of_the_stretches(self):
        bent = way((0, 0), (10, 0), (10, 10), (0, 10))
        for second in (way((5, 1), (5, 0)), way((9, 5), (11, 5)), way((5, 9), (5, 11))):
            self.refused(bent, second)


class TooManyLines(unittest.TestCase):
    def test_the_fifth(self):
        self.assertEqual(last(*[apart(k) for k in range(5)]), [-5])

    def test_a_drop_makes_room(self):
        told = ask(*[apart(k) for k in range(4)], drop(2), apart(4), apart(5))
        self.assertEqual(told[4:], [[3], [3], [-5]])


class ToldFirst(unittest.TestCase):
    def setUp(self):
        self.full = [apart(k) for k in range(4)]

    def test_not_granted_ahead_of_all(self):
        self.assertEqual(last(line(2, (5, 5), (5, 5), (9, 9))), [-1])
        self.assertEqual(last(ring((5, 5), (5, 5))), [-1])
        self.assertEqual(last(apart(0), way((5, 490), (5, 1001))), [-1])
        self.assertEqual(last(*self.full, way((5, 5))), [-1])
        self.assertEqual(last(*self.full, way((5, 490), (5, 490), (5, 1001))), [-1])

    def test_not_sound_ahead_of_the_other_two(self):
        self.assertEqual(last(apart(0), way((5, 490), (5, 510), (5, 495))), [-2])
        self.assertEqual(last(*self.full, way((5, 5), (5, 5))), [-2])
        self.assertEqual(last(*self.full, way((5, 490), (5, 510), (5, 495))), [-2])

    def test_meeting_ahead_of_too_many(self):
        self.assertEqual(last(*self.full, way((5, 490), (5, 510))), [-6])


class AsItWas(unittest.TestCase):
    def test_after_each_refusal(self):
        lines = [way((0, 0), (10, 10), (20, 0)), ring(*SQUARE), apart(0), apart(1)]
        asked = [
            order(), worth(0, 1), shown(100, 0), shown(150, 1), counts(300), few(9), area(0, 1), area(20000, 1),
            turns(0, 1, 150, 150),
        ]
        refused = [
            (line(2, (0, 900), (9, 900)), -1), (way((1, 1)), -1), (way((900, 900), (900, 900)), -2),
            (way((0, 20), (10, 0)), -6), (way((0, 900), (9, 900)), -5), (drop(4), -3),
            (worth(4, 0), -3), (worth(0, 3), -4), (shown(0, 4), -3), (few(8), -7), (area(0, 4), -3),
            (area(GREATEST, 0), -4), (turns(0, 4, 1, 1), -3), (turns(GREATEST, 0, 1, 1), -4),
            (turns(0, 1, 150, 100), -6), (turns(GREATEST, 1, 200, 200), -6),
        ]
        before = ask(*lines, *asked)[4:]
        for call, number in refused:
            told = ask(*lines, call, *asked, drop(3))
            self.assertEqual(told[4], [number])
            self.assertEqual(told[5:-1], before)
            self.assertEqual(told[-1], [3])

    def test_a_refused_line_takes_no_number_and_no_room(self):
        self.assertEqual(ask(way((1, 1)), way((5, 5), (5, 5)), apart(0), apart(0), apart(1)),
                         [[-1], [-2], [0], [-6], [1]])


class Drop(unittest.TestCase):
    def test_answers_how_many_are_left(self):
        self.assertEqual(ask(apart(0), apart(1), drop(1), drop(0))[2:], [[1], [0]])

    def test_no_such_line(self):
        self.assertEqual(last(drop(0)), [-3])
        self.assertEqual(last(apart(0), drop(1)), [-3])
        self.assertEqual(last(apart(0), drop(GREATEST)), [-3])
        self.assertEqual(ask(apart(0), drop(0), drop(0))[1:], [[0], [-3]])

    def test_those_behind_move_up(self):
        lines = [way(*comb(count)) for count in (2, 3)]
        low = way((0, 300), (1, 300), (2, 301), (3, 300))
        high = way((0, 400), (1, 400), (2, 401), (3, 400), (4, 400))
        told = ask(lines[0], low, high, apart(0), drop(1), shown(0, 0), shown(0, 1), shown(0, 2), shown(0, 3))
        self.assertEqual(told[4:], [[3], [2, 0, 1], [5, 0, 1, 2, 3, 4], [2, 0, 1], [-3]])

    def test_the_place_is_free_again(self):
        self.assertEqual(ask(apart(0), apart(1), drop(0), apart(0), apart(1)), [[0], [1], [1], [1], [-6]])


if __name__ == "__main__":
    unittest.main()
