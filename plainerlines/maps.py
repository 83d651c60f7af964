"""A map of lines, and the answers to the calls about it.

A going is a tuple: the line's number, the point's number, the point's worth.
"""

from plainerlines.shapes import Line, bend, doubled_area, in_triangle, is_on, is_sound, lines_meet, turns_round

LINE = 0
DROP = 1
ORDER = 2
WORTH = 3
SHOWN = 4
COUNTS = 5
FEW = 6
AREA = 7

# How many whole numbers stand behind the number of each call but line.
# A line has a row too and is measured by that.
NUMBERS = {1: 1, 2: 0, 3: 2, 4: 2, 5: 1, 6: 1, 7: 2, 8: 4}

NOT_GRANTED = -1
NOT_SOUND = -2
NO_LINE = -3
NO_POINT = -4
NO_RING = -4
TOO_MANY_LINES = -5
LINES_MEET = -6
ON_THE_RING = -6
NEVER_SO_FEW = -7

MOST_LINES = 4
MOST_POINTS = 12
MOST_ACROSS = 1000


def is_granted(ring, numbers):
    if ring > 1 or len(numbers) % 2 == 1:
        return False
    fewest = 3 if ring == 1 else 2
    if len(numbers) < 2 * fewest or len(numbers) > 2 * MOST_POINTS:
        return False
    return max(numbers) <= MOST_ACROSS


def places_from(numbers):
    return [(numbers[i], numbers[i + 1]) for i in range(0, len(numbers), 2)]


# Where in the row of the points that are left those stand that the line's own form lets go.
def free_positions(line, left):
    if not line.ring:
        return list(range(1, len(left) - 1))
    if len(left) > 3:
        return list(range(len(left)))
    return []


def corners_at(line, left, position):
    ahead = left[position - 1]
    behind = left[(position + 1) % len(left)]
    return [line.points[ahead], line.points[left[position]], line.points[behind]]


# Of each: price, line, point, triangle. No two have the same line and point, so sorting
# these goes by price, then by the first line, then by the point that stands first.
def candidates(lines, left):
    found = []
    for k, line in enumerate(lines):
        for position in free_positions(line, left[k]):
            corners = corners_at(line, left[k], position)
            price = abs(bend(corners[0], corners[1], corners[2]))
            found.append((price, k, left[k][position], corners))
    return sorted(found)


def places_left(lines, left):
    found = []
    for k, line in enumerate(lines):
        found.extend([line.points[i] for i in left[k]])
    return found


# No two points of a map are at one place, so a corner is known by its place.
def is_clear(corners, places):
    for place in places:
        if place not in corners and in_triangle(place, corners):
            return False
    return True


def next_to_go(lines, left):
    places = places_left(lines, left)
    for candidate in candidates(lines, left):
        if is_clear(candidate[3], places):
            return candidate
    return None


def goings_of(lines):
    left = [list(range(len(line.points))) for line in lines]
    goings = []
    greatest = 0
    candidate = next_to_go(lines, left)
    while candidate is not None:
        greatest = max(greatest, candidate[0])
        goings.append((candidate[1], candidate[2], greatest))
        left[candidate[1]].remove(candidate[2])
        candidate = next_to_go(lines, left)
    return goings


# For each line a dict of its points' worths; a point that never goes is not in it.
def worths_of(lines):
    found = [{} for line in lines]
    for going in goings_of(lines):
        found[going[0]][going[1]] = going[2]
    return found


# For each line the numbers of its points that are shown at t.
def shown_of(lines, t):
    found = []
    for line, worths in zip(lines, worths_of(lines)):
        found.append([i for i in range(len(line.points)) if i not in worths or worths[i] >= t])
    return found


def line_shown(lines, t, k):
    return Line(lines[k].ring, [lines[k].points[i] for i in shown_of(lines, t)[k]])


# What each call answers is a list; a refusal is a list of its number alone.
class Map:
    def __init__(self):
        self.lines = []

    def line(self, ring, numbers):
        if not is_granted(ring, numbers):
            return [NOT_GRANTED]
        line = Line(ring == 1, places_from(numbers))
        if not is_sound(line):
            return [NOT_SOUND]
        if any([lines_meet(line, other) for other in self.lines]):
            return [LINES_MEET]
        if len(self.lines) == MOST_LINES:
            return [TOO_MANY_LINES]
        self.lines.append(line)
        return [len(self.lines) - 1]

    def drop(self, k):
        if k >= len(self.lines):
            return [NO_LINE]
        self.lines.pop(k)
        return [len(self.lines)]

    def order(self):
        goings = goings_of(self.lines)
        answer = [len(goings)]
        for going in goings:
            answer.extend(list(going))
        return answer

    def worth(self, k, i):
        if k >= len(self.lines):
            return [NO_LINE]
        if i >= len(self.lines[k].points):
            return [NO_POINT]
        worths = worths_of(self.lines)[k]
        return [1, worths[i]] if i in worths else [0]

    def shown(self, t, k):
        if k >= len(self.lines):
            return [NO_LINE]
        points = shown_of(self.lines, t)[k]
        return [len(points)] + points

    def counts(self, t):
        return [len(points) for points in shown_of(self.lines, t)]

    def few(self, n):
        too_many = sum([len(line.points) for line in self.lines]) - n
        if too_many <= 0:
            return [0]
        goings = goings_of(self.lines)
        if too_many > len(goings):
            return [NEVER_SO_FEW]
        # Worths never fall from one going to the next, so the last one that is needed tells for all.
        return [goings[too_many - 1][2] + 1]

    def area(self, t, k):
        if k >= len(self.lines):
            return [NO_LINE]
        if not self.lines[k].ring:
            return [NO_RING]
        return [0, doubled_area(line_shown(self.lines, t, k))]

    # This is the call round, a name that Python has for something else.
    def turns(self, t, k, place):
        if k >= len(self.lines):
            return [NO_LINE]
        if not self.lines[k].ring:
            return [NO_RING]
        ring = line_shown(self.lines, t, k)
        if is_on(place, ring):
            return [ON_THE_RING]
        return [0, turns_round(place, ring)]


def answer_one(the_map, call):
    if call[0] == LINE:
        return the_map.line(call[1], call[3:])
    if call[0] == DROP:
        return the_map.drop(call[1])
    if call[0] == ORDER:
        return the_map.order()
    if call[0] == WORTH:
        return the_map.worth(call[1], call[2])
    if call[0] == SHOWN:
        return the_map.shown(call[1], call[2])
    if call[0] == COUNTS:
        return the_map.counts(call[1])
    if call[0] == FEW:
        return the_map.few(call[1])
    if call[0] == AREA:
        return the_map.area(call[1], call[2])
    return the_map.turns(call[1], call[2], (call[3], call[4]))


def length_at(calls, at):
    if calls[at] == LINE:
        return 3 + calls[at + 2]
    return 1 + NUMBERS[calls[at]]


def answers(calls):
    the_map = Map()
    given = []
    at = 0
    while at < len(calls):
        length = length_at(calls, at)
        answer = answer_one(the_map, calls[at:at + length])
        given.append(len(answer))
        given.extend(answer)
        at += length
    return given
