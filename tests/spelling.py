"""Spells calls as the interface asks, and takes what is answered apart, call by call."""

from plainerlines.maps import answers

GREATEST = 4294967295


def raw_line(ring, numbers):
    return [0, ring, len(numbers)] + list(numbers)


def line(ring, *points):
    return raw_line(ring, [number for point in points for number in point])


def way(*points):
    return line(0, *points)


def ring(*points):
    return line(1, *points)


def drop(k):
    return [1, k]


def order():
    return [2]


def worth(k, i):
    return [3, k, i]


def shown(t, k):
    return [4, t, k]


def counts(t):
    return [5, t]


def few(n):
    return [6, n]


def area(t, k):
    return [7, t, k]


def turns(t, k, x, y):
    """The call round."""
    return [8, t, k, x, y]


def joined(calls):
    return [number for call in calls for number in call]


def taken_apart(given):
    parts = []
    at = 0
    while at < len(given):
        end = at + 1 + given[at]
        if end > len(given):
            raise AssertionError("a count is beyond the end")
        parts.append(given[at + 1:end])
        at = end
    return parts


def ask(*calls):
    return taken_apart(answers(joined(calls)))


def behind(lines, *calls):
    """What the calls behind the lines answer."""
    return ask(*lines, *calls)[len(lines):]


def last(*calls):
    return ask(*calls)[-1]


def goings(*calls):
    told = last(*calls, order())
    triples = [tuple(told[i:i + 3]) for i in range(1, len(told), 3)]
    if told[0] != len(triples) or len(told) != 1 + 3 * told[0]:
        raise AssertionError(f"order does not count its goings: {told}")
    return triples
