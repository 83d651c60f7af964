"""Places, stretches, triangles and lines: what lies where, in whole numbers alone.

A place is a tuple (x, y); a stretch is a tuple of the two places at its ends.
"""


class Line:
    def __init__(self, ring, points):
        self.ring = ring
        self.points = points


# Above 0 where the way from a by b to c bends left, below 0 where it bends right;
# its size is twice the area of their triangle.
def bend(a, b, c):
    return (b[0] - a[0]) * (c[1] - a[1]) - (b[1] - a[1]) * (c[0] - a[0])


def in_box(place, corners):
    xs = [corner[0] for corner in corners]
    ys = [corner[1] for corner in corners]
    return min(xs) <= place[0] <= max(xs) and min(ys) <= place[1] <= max(ys)


# The rim belongs to the triangle.
def in_triangle(place, corners):
    a = corners[0]
    b = corners[1]
    c = corners[2]
    bends = [bend(a, b, place), bend(b, c, place), bend(c, a, place)]
    if min(bends) < 0 and max(bends) > 0:
        return False
    # Along the straight of a flat triangle nothing bends, so there only the box tells.
    return in_box(place, corners)


def on_stretch(place, stretch):
    return bend(stretch[0], stretch[1], place) == 0 and in_box(place, stretch)


def ends_on_two_sides(stretch, other):
    first = bend(stretch[0], stretch[1], other[0])
    second = bend(stretch[0], stretch[1], other[1])
    return first * second < 0


def stretches_meet(one, other):
    if on_stretch(one[0], other) or on_stretch(one[1], other):
        return True
    if on_stretch(other[0], one) or on_stretch(other[1], one):
        return True
    return ends_on_two_sides(one, other) and ends_on_two_sides(other, one)


# For a stretch that begins where the one before it ends. If they have more in common than
# that, they lie along one another, and the shorter one's far end is on the longer one.
def runs_back(before, stretch):
    return on_stretch(stretch[1], before) or on_stretch(before[0], stretch)


def stretches_of(line):
    points = line.points
    found = [(points[i - 1], points[i]) for i in range(1, len(points))]
    if line.ring:
        found.append((points[-1], points[0]))
    return found


def stretches_clash(line, stretches, i, j):
    if j == i + 1:
        return runs_back(stretches[i], stretches[j])
    if line.ring and i == 0 and j == len(stretches) - 1:
        return runs_back(stretches[j], stretches[i])
    return stretches_meet(stretches[i], stretches[j])


# Whether no two points are at one place and the stretches keep apart as they must.
def is_sound(line):
    if len(set(line.points)) < len(line.points):
        return False
    stretches = stretches_of(line)
    for j in range(len(stretches)):
        for i in range(j):
            if stretches_clash(line, stretches, i, j):
                return False
    return True


def lines_meet(line, other):
    for one in stretches_of(line):
        for another in stretches_of(other):
            if stretches_meet(one, another):
                return True
    return False


def is_on(place, line):
    return any([on_stretch(place, stretch) for stretch in stretches_of(line)])


# For a ring: above 0 where it runs counterclockwise, below 0 where clockwise.
def doubled_area(ring):
    return sum([start[0] * end[1] - start[1] * end[0] for start, end in stretches_of(ring)])


# For a ring and a place that is not on it. Counted is what crosses the level straight from the
# place to the right: upwards is counterclockwise, downwards clockwise. A stretch has its lower
# end and not its upper one, so where two stretches join on that straight none counts twice.
def turns_round(place, ring):
    turns = 0
    for start, end in stretches_of(ring):
        if start[1] <= place[1] < end[1] and bend(start, end, place) > 0:
            turns += 1
        if end[1] <= place[1] < start[1] and bend(start, end, place) < 0:
            turns -= 1
    return turns
