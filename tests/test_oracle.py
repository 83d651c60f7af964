"""Many maps, made by a source of chance with a fixed beginning, held against the oracle."""

import unittest
from random import Random

from tests.oracle import Oracle, meet, sound
from tests.spelling import GREATEST, ask, drop, joined, order, raw_line, shown, worth


def some_line(chance, across):
    """Points of a line that is sound more often than not."""
    ring = chance.randrange(2)
    want = chance.randint(2, 12)
    points = [(chance.randint(0, across), chance.randint(0, across))]
    for attempt in range(40):
        if len(points) >= want:
            break
        longer = points + [(chance.randint(0, across), chance.randint(0, across))]
        if sound(False, longer):
            points = longer
    if ring:
        while len(points) > 3 and not sound(True, points):
            points = points[:-1]
    return ring, [number for point in points for number in point]


def spoilt(chance, ring, numbers):
    numbers = list(numbers)
    kind = chance.randrange(5)
    if kind == 0:
        return raw_line(chance.choice((2, GREATEST)), numbers)
    if kind == 1:
        return raw_line(ring, numbers[:-1])
    if kind == 2:
        numbers[chance.randrange(len(numbers))] = chance.choice((1001, GREATEST))
    if kind == 3:
        numbers = (numbers * 20)[:chance.choice((26, 40))]
    if kind == 4:
        at = 2 * chance.randrange(len(numbers) // 2)
        numbers = numbers + numbers[at:at + 2]
    return raw_line(ring, numbers)


def some_call(chance, across, worths):
    kind = chance.randrange(12)
    k = chance.choice((0, 0, 0, 1, 1, 2, 3, 4, GREATEST))
    if kind < 5:
        ring, numbers = some_line(chance, across)
        return spoilt(chance, ring, numbers) if chance.randrange(10) == 0 else raw_line(ring, numbers)
    if kind == 5:
        return drop(k)
    if kind < 8:
        return order()
    if kind < 10:
        return worth(k, chance.choice((0, 1, 2, 3, 4, 5, 6, 7, 8, 9, 10, 11, 12, GREATEST)))
    return shown(max(0, chance.choice(worths) + chance.randint(-1, 1)), k)


def story(chance):
    """Calls, and what the oracle answers to each."""
    oracle = Oracle()
    across = chance.choice((3, 5, 9, 30, 1000))
    worths = [0, GREATEST - 1]
    calls = []
    told = []
    for turn in range(chance.randint(1, 30)):
        call = some_call(chance, across, worths)
        if len(joined(calls)) + len(call) > 1300:
            break
        calls.append(call)
        told.append(oracle.told(call))
        if call == order():
            worths = worths + told[-1][3::3]
    return calls, told


class AgainstTheOracle(unittest.TestCase):
    def test_all_calls(self):
        seen = set()
        for seed in range(250):
            calls, told = story(Random(seed))
            self.assertEqual(ask(*calls), told, f"seed {seed}: {calls}")
            seen.update((call[0], answer[0] if answer[0] < 0 else 0) for call, answer in zip(calls, told))
        refusals = {(0, -1), (0, -2), (0, -6), (0, -5), (1, -3), (3, -3), (3, -4), (4, -3)}
        self.assertEqual(seen, refusals | {(number, 0) for number in range(5)})


class WhatItStandsFor(unittest.TestCase):
    def maps(self):
        for seed in range(1000, 1060):
            chance = Random(seed)
            oracle = Oracle()
            across = chance.choice((5, 9, 30, 1000))
            calls = [raw_line(*some_line(chance, across)) for attempt in range(8)]
            taken = [call for call in calls if oracle.told(call)[0] >= 0]
            if taken:
                yield taken, oracle.lines

    def test_at_no_scale_do_lines_meet(self):
        for taken, lines in self.maps():
            told = ask(*taken, order())[-1]
            for t in sorted({0, GREATEST} | {value + 1 for value in told[3::3]}):
                rows = ask(*taken, *[shown(t, k) for k in range(len(lines))])[len(taken):]
                drawn = [(lines[k][0], [lines[k][1][i] for i in row[1:]]) for k, row in enumerate(rows)]
                for k, line in enumerate(drawn):
                    self.assertTrue(sound(*line), taken)
                    self.assertFalse(any(meet(line, other) for other in drawn[:k]), taken)

    def test_order_worth_and_shown_agree(self):
        for taken, lines in self.maps():
            told = ask(*taken, order())[-1]
            triples = [told[i:i + 3] for i in range(1, len(told), 3)]
            self.assertEqual(sorted(told[3::3]), told[3::3])
            for k, (ring, points) in enumerate(lines):
                worths = {i: value for line, i, value in triples if line == k}
                numbers = range(len(points))
                rows = ask(*taken, *[worth(k, i) for i in numbers])[len(taken):]
                self.assertEqual(rows, [[1, worths[i]] if i in worths else [0] for i in numbers])
                for t in sorted({0, 1, GREATEST} | set(worths.values()) | {value + 1 for value in worths.values()}):
                    kept = [i for i in numbers if worths.get(i, GREATEST) >= t]
                    self.assertEqual(ask(*taken, shown(t, k))[-1], [len(kept)] + kept)


if __name__ == "__main__":
    unittest.main()
