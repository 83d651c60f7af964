"""Many maps, made by a source of chance with a fixed beginning, held against the oracle."""

import unittest
from random import Random

from tests.oracle import Oracle, meet, on, sound, times_round
from tests.spelling import (
    GREATEST, area, ask, behind, counts, drop, few, joined, order, raw_line, shown, turns, worth,
)


def some_line(chance, across):
    """Points of a line that is sound more often than not."""
    ring = chance.randrange(2)
    want = chance.randint(2 + ring, 12)
    # Many lines keep to a part of the map: there is room for more of them then.
    wide = chance.choice((across, max(1, across // 3)))
    left, low = chance.randint(0, across - wide), chance.randint(0, across - wide)
    points = [(left + chance.randint(0, wide), low + chance.randint(0, wide))]
    for attempt in range(40):
        if len(points) >= want:
            break
        longer = points + [(left + chance.randint(0, wide), low + chance.randint(0, wide))]
        if sound(False, longer):
            points = longer
    if ring:
        while len(points) > 3 and not sound(True, points):
            points = points[:-1]
    return ring, [number for point in points for number in point]


def spoilt(chance, ring, numbers):
    numbers = list(numbers)
    kind = chance.randrange(5)
    if kind == 0:
        return raw_line(chance.choice((2, GREATEST)), numbers)
    if kind == 1:
        return raw_line(ring, numbers[:-1])
    if kind == 2:
        numbers[chance.randrange(len(numbers))] = chance.choice((1001, GREATEST))
    if kind == 3:
        numbers = (numbers * 20)[:chance.choice((26, 40))]
    if kind == 4:
        at = 2 * chance.randrange(len(numbers) // 2)
        numbers = numbers + numbers[at:at + 2]
    return raw_line(ring, numbers)


def some_place(chance, across):
    far = (across + 1, 1000, 1001, GREATEST)
    return [chance.choice(far) if chance.randrange(12) == 0 else chance.randint(0, across) for which in range(2)]


def some_call(chance, across, worths, early):
    kind = chance.randrange(-30 if early else 0, 18)
    k = chance.choice((0, 0, 0, 1, 1, 2, 3, 4, GREATEST))
    t = max(0, chance.choice(worths) + chance.randint(-1, 1))
    if kind < 5:
        ring, numbers = some_line(chance, across)
        return spoilt(chance, ring, numbers) if chance.randrange(10) == 0 else raw_line(ring, numbers)
    if kind == 5:
        return drop(k)
    if kind < 8:
        return order()
    if kind < 10:
        return worth(k, chance.choice((0, 1, 2, 3, 4, 5, 6, 7, 8, 9, 10, 11, 12, GREATEST)))
    if kind < 12:
        return shown(t, k)
    if kind == 12:
        return counts(t)
    if kind < 15:
        return few(chance.choice((chance.randrange(49), chance.randrange(9), GREATEST)))
    if kind == 15:
        return area(t, k)
    return turns(t, k, *some_place(chance, across))


def story(chance):
    """Calls, and what the oracle answers to each."""
    oracle = Oracle()
    across = chance.choice((3, 5, 9, 30, 1000))
    worths = [0, GREATEST - 1]
    calls = []
    told = []
    for turn in range(chance.randint(1, 30)):
        call = some_call(chance, across, worths, turn < 8)
        if len(joined(calls)) + len(call) > 1300:
            break
        calls.append(call)
        told.append(oracle.told(call))
        if call == order():
            worths = worths + told[-1][3::3]
    return calls, told


class AgainstTheOracle(unittest.TestCase):
    def test_all_calls(self):
        seen = set()
        for seed in range(300):
            calls, told = story(Random(seed))
            self.assertEqual(ask(*calls), told, f"seed {seed}: {calls}")
            seen.update((call[0], min([0] + answer[:1])) for call, answer in zip(calls, told))
        refusals = {
            (0, -1), (0, -2), (0, -6), (0, -5), (1, -3), (3, -3), (3, -4), (4, -3), (6, -7), (7, -3), (7, -4),
            (8, -3), (8, -4), (8, -6),
        }
        self.assertEqual(seen, refusals | {(number, 0) for number in range(9)})


def in_lists_of_30(taken, calls):
    """What the calls answer, where one list with the lines ahead would have too many of them."""
    size = 30 - len(taken)
    return [row for at in range(0, len(calls), size) for row in behind(taken, *calls[at:at + size])]


def scales(taken):
    """Every t at which something else is shown than at one less, and the greatest."""
    return sorted({0, GREATEST} | {value + 1 for value in ask(*taken, order())[-1][3::3]})


def drawn_at(t, taken, lines):
    rows = behind(taken, *[shown(t, k) for k in range(len(lines))])
    return [(lines[k][0], [lines[k][1][i] for i in row[1:]]) for k, row in enumerate(rows)]


class WhatItStandsFor(unittest.TestCase):
    def maps(self):
        for seed in range(1000, 1060):
            chance = Random(seed)
            oracle = Oracle()
            across = chance.choice((5, 9, 30, 1000))
            calls = [raw_line(*some_line(chance, across)) for attempt in range(8)]
            taken = [call for call in calls if oracle.told(call)[0] >= 0]
            if taken:
                yield taken, oracle.lines

    def test_at_no_scale_do_lines_meet(self):
        for taken, lines in self.maps():
            for t in scales(taken):
                drawn = drawn_at(t, taken, lines)
                for k, line in enumerate(drawn):
                    self.assertTrue(sound(*line), taken)
                    self.assertFalse(any(meet(line, other) for other in drawn[:k]), taken)

    def test_nothing_comes_to_the_other_side(self):
        for taken, lines in self.maps():
            for t in scales(taken):
                drawn = drawn_at(t, taken, lines)
                for k in [k for k, (ring, points) in enumerate(lines) if ring]:
                    places = [place for other, line in enumerate(drawn) if other != k for place in line[1]]
                    now = in_lists_of_30(taken, [turns(t, k, *place) for place in places])
                    once = in_lists_of_30(taken, [turns(0, k, *place) for place in places])
                    self.assertEqual(now, once, taken)
                    self.assertTrue(all(row in ([0, 0], [0, 1], [0, -1]) for row in now), taken)

    def test_area_and_round_at_every_place(self):
        every_place = [(x, y) for x in range(10) for y in range(10)]
        for taken, lines in self.maps():
            for k in [k for k, (ring, points) in enumerate(lines) if ring and set(points) <= set(every_place)]:
                for t in scales(taken):
                    doubled = behind(taken, area(t, k))[0][1]
                    way_round = 1 if doubled > 0 else -1
                    rows = in_lists_of_30(taken, [turns(t, k, *place) for place in every_place])
                    points = drawn_at(t, taken, lines)[k][1]
                    self.assertEqual(rows, [[-6] if on(place, True, points) else [0, times_round(place, points)]
                                            for place in every_place], taken)
                    # Twice a ring's area is 2 for each whole place within, 1 for each on it, less 2.
                    self.assertEqual(abs(doubled), 2 * rows.count([0, way_round]) + rows.count([-6]) - 2, taken)

    def test_counts_and_shown_agree(self):
        for taken, lines in self.maps():
            for t in scales(taken):
                rows = behind(taken, counts(t), *[shown(t, k) for k in range(len(lines))])
                self.assertEqual(rows[0], [row[0] for row in rows[1:]], taken)

    def test_few_and_counts_agree(self):
        for taken, lines in self.maps():
            fewest = sum(behind(taken, counts(GREATEST))[0])
            most = sum(len(points) for ring, points in lines)
            self.assertEqual(behind(taken, few(fewest - 1), few(most)), [[-7], [0]], taken)
            for n in range(fewest, most):
                t = behind(taken, few(n))[0][0]
                at_t, at_one_less = behind(taken, counts(t), counts(t - 1))
                self.assertLessEqual(sum(at_t), n, taken)
                self.assertGreater(sum(at_one_less), n, taken)

    def test_order_worth_and_shown_agree(self):
        for taken, lines in self.maps():
            told = ask(*taken, order())[-1]
            triples = [told[i:i + 3] for i in range(1, len(told), 3)]
            self.assertEqual(sorted(told[3::3]), told[3::3])
            for k, (ring, points) in enumerate(lines):
                worths = {i: value for line, i, value in triples if line == k}
                numbers = range(len(points))
                rows = ask(*taken, *[worth(k, i) for i in numbers])[len(taken):]
                self.assertEqual(rows, [[1, worths[i]] if i in worths else [0] for i in numbers])
                for t in sorted({0, 1, GREATEST} | set(worths.values()) | {value + 1 for value in worths.values()}):
                    kept = [i for i in numbers if worths.get(i, GREATEST) >= t]
                    self.assertEqual(ask(*taken, shown(t, k))[-1], [len(kept)] + kept)


if __name__ == "__main__":
    unittest.main()
