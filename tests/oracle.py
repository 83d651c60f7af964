"""The same promises, kept in another way: by fractions and by going through everything.

Slow and long-winded, and on purpose nothing is shared with the program.
"""

from fractions import Fraction


def minus(p, q):
    return (p[0] - q[0], p[1] - q[1])


def cross(d, e):
    return d[0] * e[1] - d[1] * e[0]


def along(s, share):
    d = minus(s[1], s[0])
    return (s[0][0] + share * d[0], s[0][1] + share * d[1])


def common(s, t):
    """The first and the last place that two stretches have in common, or None."""
    d = minus(s[1], s[0])
    e = minus(t[1], t[0])
    gap = minus(t[0], s[0])
    if cross(d, e) != 0:
        here = Fraction(cross(gap, e), cross(d, e))
        there = Fraction(cross(gap, d), cross(d, e))
        if 0 <= here <= 1 and 0 <= there <= 1:
            return (along(s, here), along(s, here))
        return None
    if cross(d, gap) != 0:
        return None
    low = max(min(s), min(t))
    high = min(max(s), max(t))
    return (low, high) if low <= high else None


def stretches(ring, points):
    count = len(points)
    return [(points[i], points[(i + 1) % count]) for i in range(count if ring else count - 1)]


def sound(ring, points):
    if any(points[i] == points[j] for j in range(len(points)) for i in range(j)):
        return False
    all_of_them = stretches(ring, points)
    count = len(all_of_them)
    for i in range(count):
        for j in range(count):
            if i == j:
                continue
            found = common(all_of_them[i], all_of_them[j])
            follows = j == i + 1 or (ring and j == (i + 1) % count)
            leads = i == j + 1 or (ring and i == (j + 1) % count)
            if follows and found != (all_of_them[i][1], all_of_them[i][1]):
                return False
            if not follows and not leads and found is not None:
                return False
    return True


def meet(one, other):
    return any(common(s, t) is not None for s in stretches(*one) for t in stretches(*other))


def doubled(a, b, c):
    return abs(cross(minus(b, a), minus(c, a)))


def covered(p, a, b, c):
    if doubled(a, b, c) == 0:
        return doubled(min(a, b, c), p, max(a, b, c)) == 0 and min(a, b, c) <= p <= max(a, b, c)
    return doubled(a, b, p) + doubled(b, c, p) + doubled(c, a, p) == doubled(a, b, c)


# No place with whole numbers in reach lies that way from another, so nothing is ever met at its end.
UPWARDS = (1, 2 ** 70)


def on(p, ring, points):
    return any(doubled(u, v, p) == 0 and min(u, v) <= p <= max(u, v) for u, v in stretches(ring, points))


def times_round(p, points):
    """Counts the stretches that pass the way upwards from p, to the left less to the right."""
    count = 0
    for u, v in stretches(True, points):
        before, after = minus(u, p), minus(v, p)
        turn = cross(before, after)
        from_right = cross(UPWARDS, before) < 0
        to_right = cross(UPWARDS, after) < 0
        if from_right and not to_right and turn > 0:
            count += 1
        if to_right and not from_right and turn < 0:
            count -= 1
    return count


class Oracle:
    def __init__(self):
        self.lines = []

    def goings(self):
        there = {(k, i) for k, (ring, points) in enumerate(self.lines) for i in range(len(points))}
        gone = []
        prices = []
        while True:
            best = None
            for k, i in sorted(there):
                price = self.price(there, k, i)
                if price is not None and (best is None or price < best[0]):
                    best = (price, k, i)
            if best is None:
                return gone
            prices.append(best[0])
            gone.append((best[1], best[2], max(prices)))
            there.remove(best[1:])

    def price(self, there, k, i):
        ring, points = self.lines[k]
        own = sorted(number for line, number in there if line == k)
        if ring and len(own) <= 3 or not ring and i in (own[0], own[-1]):
            return None
        ahead = max([number for number in own if number < i], default=own[-1])
        behind = min([number for number in own if number > i], default=own[0])
        three = {(k, ahead), (k, i), (k, behind)}
        corners = (points[ahead], points[i], points[behind])
        if any(covered(self.lines[line][1][number], *corners) for line, number in there - three):
            return None
        return doubled(*corners)

    def line(self, ring, numbers):
        if ring not in (0, 1) or len(numbers) % 2 or any(number > 1000 for number in numbers):
            return [-1]
        if not 2 + ring <= len(numbers) // 2 <= 12:
            return [-1]
        line = (ring == 1, list(zip(numbers[::2], numbers[1::2])))
        if not sound(*line):
            return [-2]
        if any(meet(line, other) for other in self.lines):
            return [-6]
        if len(self.lines) == 4:
            return [-5]
        self.lines = self.lines + [line]
        return [len(self.lines) - 1]

    def drop(self, k):
        if k >= len(self.lines):
            return [-3]
        self.lines = self.lines[:k] + self.lines[k + 1:]
        return [len(self.lines)]

    def order(self):
        gone = self.goings()
        return [len(gone)] + [number for going in gone for number in going]

    def worth(self, k, i):
        if k >= len(self.lines):
            return [-3]
        if i >= len(self.lines[k][1]):
            return [-4]
        found = [value for line, number, value in self.goings() if (line, number) == (k, i)]
        return [1] + found if found else [0]

    def shown(self, t, k):
        if k >= len(self.lines):
            return [-3]
        hidden = [number for line, number, value in self.goings() if line == k and value < t]
        numbers = [i for i in range(len(self.lines[k][1])) if i not in hidden]
        return [len(numbers)] + numbers

    def counts(self, t):
        return [self.shown(t, k)[0] for k in range(len(self.lines))]

    def few(self, n):
        for t in sorted({0} | {value + 1 for line, number, value in self.goings()}):
            if sum(self.counts(t)) <= n:
                return [t]
        return [-7]

    def refused_as_ring(self, k):
        if k >= len(self.lines):
            return [-3]
        return None if self.lines[k][0] else [-4]

    def drawn(self, t, k):
        return [self.lines[k][1][i] for i in self.shown(t, k)[1:]]

    def area(self, t, k):
        if self.refused_as_ring(k):
            return self.refused_as_ring(k)
        return [0, sum((u[0] + v[0]) * (v[1] - u[1]) for u, v in stretches(True, self.drawn(t, k)))]

    def round(self, t, k, x, y):
        if self.refused_as_ring(k):
            return self.refused_as_ring(k)
        points = self.drawn(t, k)
        return [-6] if on((x, y), True, points) else [0, times_round((x, y), points)]

    def told(self, call):
        if call[0] == 0:
            return self.line(call[1], call[3:])
        asked = (None, self.drop, self.order, self.worth, self.shown, self.counts, self.few, self.area, self.round)
        return asked[call[0]](*call[1:])
