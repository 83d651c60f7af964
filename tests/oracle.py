"""The same promises, kept in another way: by fractions and by going through everything.

Slow and long-winded, and on purpose nothing is shared with the program.
"""

from fractions import Fraction


def minus(p, q):
    return (p[0] - q[0], p[1] - q[1])


def cross(d, e):
    return d[0] * e[1] - d[1] * e[0]


def along(s, share):
    d = minus(s[1], s[0])
    return (s[0][0] + share * d[0], s[0][1] + share * d[1])


def common(s, t):
    """The first and the last place that two stretches have in common, or None."""
    d = minus(s[1], s[0])
    e = minus(t[1], t[0])
    gap = minus(t[0], s[0])
    if cross(d, e) != 0:
        here = Fraction(cross(gap, e), cross(d, e))
        there = Fraction(cross(gap, d), cross(d, e))
        if 0 <= here <= 1 and 0 <= there <= 1:
            return (along(s, here), along(s, here))
        return None
    if cross(d, gap) != 0:
        return None
    low = max(min(s), min(t))
    high = min(max(s), max(t))
    return (low, high) if low <= high else None


def stretches(ring, points):
    count = len(points)
    return [(points[i], points[(i + 1) % count]) for i in range(count if ring else count - 1)]


def sound(ring, points):
    if any(points[i] == points[j] for j in range(len(points)) for i in range(j)):
        return False
    all_of_them = stretches(ring, points)
    count = len(all_of_them)
    for i in range(count):
        for j in range(count):
            if i == j:
                continue
            found = common(all_of_them[i], all_of_them[j])
            follows = j == i + 1 or (ring and j == (i + 1) % count)
            leads = i == j + 1 or (ring and i == (j + 1) % count)
            if follows and found != (all_of_them[i][1], all_of_them[i][1]):
                return False
            if not follows and not leads and found is not None:
                return False
    return True


def meet(one, other):
    return any(common(s, t) is not None for s in stretches(*one) for t in stretches(*other))


def doubled(a, b, c):
    return abs(cross(minus(b, a), minus(c, a)))


def covered(p, a, b, c):
    if doubled(a, b, c) == 0:
        return doubled(min(a, b, c), p, max(a, b, c)) == 0 and min(a, b, c) <= p <= max(a, b, c)
    return doubled(a, b, p) + doubled(b, c, p) + doubled(c, a, p) == doubled(a, b, c)


class Oracle:
    def __init__(self):
        self.lines = []

    def goings(self):
        there = {(k, i) for k, (ring, points) in enumerate(self.lines) for i in range(len(points))}
        gone = []
        prices = []
        while True:
            best = None
            for k, i in sorted(there):
                price = self.price(there, k, i)
                if price is not None and (best is None or price < best[0]):
                    best = (price, k, i)
            if best is None:
                return gone
            prices.append(best[0])
            gone.append((best[1], best[2], max(prices)))
            there.remove(best[1:])

    def price(self, there, k, i):
        ring, points = self.lines[k]
        own = sorted(number for line, number in there if line == k)
        if ring and len(own) <= 3 or not ring and i in (own[0], own[-1]):
            return None
        ahead = max([number for number in own if number < i], default=own[-1])
        behind = min([number for number in own if number > i], default=own[0])
        three = {(k, ahead), (k, i), (k, behind)}
        corners = (points[ahead], points[i], points[behind])
        if any(covered(self.lines[line][1][number], *corners) for line, number in there - three):
            return None
        return doubled(*corners)

    def line(self, ring, numbers):
        if ring not in (0, 1) or len(numbers) % 2 or any(number > 1000 for number in numbers):
            return [-1]
        if not 2 + ring <= len(numbers) // 2 <= 12:
            return [-1]
        line = (ring == 1, list(zip(numbers[::2], numbers[1::2])))
        if not sound(*line):
            return [-2]
        if any(meet(line, other) for other in self.lines):
            return [-6]
        if len(self.lines) == 4:
            return [-5]
        self.lines = self.lines + [line]
        return [len(self.lines) - 1]

    def drop(self, k):
        if k >= len(self.lines):
            return [-3]
        self.lines = self.lines[:k] + self.lines[k + 1:]
        return [len(self.lines)]

    def order(self):
        gone = self.goings()
        return [len(gone)] + [number for going in gone for number in going]

    def worth(self, k, i):
        if k >= len(self.lines):
            return [-3]
        if i >= len(self.lines[k][1]):
            return [-4]
        found = [value for line, number, value in self.goings() if (line, number) == (k, i)]
        return [1] + found if found else [0]

    def shown(self, t, k):
        if k >= len(self.lines):
            return [-3]
        hidden = [number for line, number, value in self.goings() if line == k and value < t]
        numbers = [i for i in range(len(self.lines[k][1])) if i not in hidden]
        return [len(numbers)] + numbers

    def told(self, call):
        if call[0] == 0:
            return self.line(call[1], call[3:])
        asked = {1: self.drop, 2: self.order, 3: self.worth, 4: self.shown}
        return asked[call[0]](*call[1:])
