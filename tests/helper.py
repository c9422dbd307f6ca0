"""What the tests share: calls by name, pictures to begin with, and a second way to reckon the answers.

The second way knows nothing of the package: it solves equations over fractions.
"""

from fractions import Fraction
from functools import lru_cache
from math import lcm

from roomtwice.pictures import answers

NUMBERS = {
    "start": 0, "floor": 1, "thing": 2, "drop": 3, "ready": 4, "across": 5, "back": 6, "stand": 7, "stand1": 8,
    "track": 9, "track1": 10, "may": 11, "lies": 12, "lift": 13, "cut": 14, "fits": 15, "state": 16,
}

LEAST = -2147483648
GREATEST = 2147483647

# (u, v) is taken to ((4u + 2v) / (2 + v), 4v / (2 + v)),
# (s, t) is taken back to ((2s - t) / (4 - t), 2t / (4 - t)).
LEANING = [(0, 0, 0, 0), (2, 0, 4, 0), (2, 2, 3, 2), (0, 2, 1, 2)]

# As the first picture is, so is the second.
STILL = [(0, 0, 0, 0), (10, 0, 10, 0), (10, 10, 10, 10), (0, 10, 0, 10)]


def flat(calls):
    """Calls such as ("floor", 1, 2, 3, 4) as the one list that is handed in."""
    row = []
    for call in calls:
        row.append(NUMBERS[call[0]])
        row.extend(call[1:])
    return row


def split(row):
    """The answers, one list for each call."""
    parts = []
    place = 0
    while place < len(row):
        behind = place + 1 + row[place]
        if row[place] < 1 or behind > len(row):
            raise ValueError("the counts do not fit")
        parts.append(row[place + 1:behind])
        place = behind
    return parts


def ask(*calls):
    """The answers to all these calls on one new object."""
    return split(answers(flat(calls)))


def room(floors, things=()):
    """The calls that lay out a room."""
    return [("start",)] + [("floor", *f) for f in floors] + [("thing", *t) for t in things]


def ask_in(floors, things, *calls):
    """The answers to the calls behind those that lay out the room."""
    return ask(*room(floors, things), *calls)[-len(calls):]


def turned(four):
    """The second picture as the first, and the first as the second."""
    return [(s, t, u, v) for u, v, s, t in four]


def told_as(x, y):
    """The answer that tells a place."""
    return [0, x.numerator, x.denominator, y.numerator, y.denominator]


def whole(u, v):
    return [0, u, 1, v, 1]


def solutions(rows, width):
    """A basis of all that makes every row 0."""
    rows = [[Fraction(n) for n in row] for row in rows]
    pivots = []
    for column in range(width):
        rank = len(pivots)
        found = [r for r in range(rank, len(rows)) if rows[r][column] != 0]
        if not found:
            continue
        rows[rank], rows[found[0]] = rows[found[0]], rows[rank]
        rows[rank] = [n / rows[rank][column] for n in rows[rank]]
        for r in range(len(rows)):
            if r != rank:
                rows[r] = [n - rows[r][column] * m for n, m in zip(rows[r], rows[rank])]
        pivots.append(column)
    basis = []
    for free in [c for c in range(width) if c not in pivots]:
        vector = [Fraction(0)] * width
        vector[free] = Fraction(1)
        for r, column in enumerate(pivots):
            vector[column] = -rows[r][free]
        basis.append(vector)
    return basis


def only(rows, width=3):
    """What makes every row 0, if that is one thing up to a factor; else None."""
    basis = solutions(rows, width)
    return basis[0] if len(basis) == 1 else None


def on_a_line(a, b, c):
    """Three points as pairs."""
    return (b[0] - a[0]) * (c[1] - a[1]) == (b[1] - a[1]) * (c[0] - a[0])


@lru_cache(maxsize=None)
def view(pairs):
    """The nine numbers of the view that takes each (x, y) to its (z, w), row by row."""
    rows = []
    for x, y, z, w in pairs:
        rows.append([x, y, 1, 0, 0, 0, -z * x, -z * y, -z])
        rows.append([0, 0, 0, x, y, 1, -w * x, -w * y, -w])
    return only(rows, 9)


def through(nine, point):
    return [sum(nine[3 * r + c] * point[c] for c in range(3)) for r in range(3)]


def place_told(point):
    if point[2] == 0:
        return [-6]
    return told_as(Fraction(point[0]) / point[2], Fraction(point[1]) / point[2])


def line_told(line):
    """The one way to tell a line, of a line by fractions; -33 where there is none, or it is beyond all."""
    if line is None or line[0] == line[1] == 0:
        return [-33]
    line = [n / (line[0] or line[1]) for n in line]
    below = lcm(*[n.denominator for n in line])
    return [0] + [int(n * below) for n in line]


class Reckoned:
    """The answers reckoned the second way."""

    def __init__(self):
        self.kept = None

    def answer(self, call):
        if call[0] == "start":
            self.kept = ([], [])
            return [0]
        if self.kept is None:
            return [-11]
        return getattr(self, call[0])(*call[1:])

    def add_to(self, kept, numbers):
        if not set(numbers) <= set(range(101)):
            return [-22]
        if len(kept) > 5:
            return [-28]
        kept.append(numbers)
        return [len(kept) - 1]

    def floor(self, *numbers):
        return self.add_to(self.kept[0], numbers)

    def thing(self, *numbers):
        return self.add_to(self.kept[1], numbers)

    def drop(self, k, i):
        if k not in (0, 1):
            return [-22]
        if i not in range(len(self.kept[k])):
            return [-2]
        del self.kept[k][i]
        return [len(self.kept[k])]

    def known(self):
        four = self.kept[0][:4]
        if len(four) < 4:
            return False
        for a, b, c in ((0, 1, 2), (0, 1, 3), (0, 2, 3), (1, 2, 3)):
            for part in (slice(0, 2), slice(2, 4)):
                if on_a_line(four[a][part], four[b][part], four[c][part]):
                    return False
        return True

    def over(self, point):
        return through(view(tuple(self.kept[0][:4])), (*point, 1))

    def homeward(self):
        return view(tuple(turned(self.kept[0][:4])))

    def home(self, point):
        return through(self.homeward(), (*point, 1))

    def meeting(self):
        """The stand, or None where it is not ready."""
        if not self.known() or len(self.kept[1]) < 2:
            return None
        lines = [only([self.over((u, v)), (s, t, 1)]) for u, v, s, t in self.kept[1][:2]]
        if None in lines:
            return None
        return only(lines)

    def ready(self):
        if self.meeting() is not None:
            return [2]
        return [1 if self.known() else 0]

    def refused(self, point, is_known):
        if not set(point) <= set(range(101)):
            return [-22]
        return None if is_known else [-16]

    def across(self, *point):
        return self.refused(point, self.known()) or place_told(self.over(point))

    def back(self, *point):
        return self.refused(point, self.known()) or place_told(self.home(point))

    def stand(self):
        return self.refused((), self.meeting()) or place_told(self.meeting())

    def stand1(self):
        return self.refused((), self.meeting()) or place_told(through(self.homeward(), self.meeting()))

    def track(self, *point):
        return self.refused(point, self.meeting()) or line_told(only([self.meeting(), self.over(point)]))

    def track1(self, *point):
        if self.refused(point, self.meeting()):
            return self.refused(point, self.meeting())
        return line_told(only([through(self.homeward(), self.meeting()), self.home(point)]))

    def is_on_track(self, u, v, s, t):
        """Whether there is a line at all through the stand, where the one is taken, and the other."""
        return solutions([self.meeting(), self.over((u, v)), (s, t, 1)], 3) != []

    def may(self, *seen):
        return self.refused(seen, self.meeting()) or [int(self.is_on_track(*seen))]

    def is_on_floor(self, u, v, s, t):
        """Whether there is more than one line through where the one is taken, and the other."""
        return only([self.over((u, v)), (s, t, 1)]) is None

    def lies(self, *seen):
        return self.refused(seen, self.known()) or [int(self.is_on_floor(*seen))]

    def lift_alone(self, u, v, s, t):
        """So many times the three together are nowhere; None where there is no one way, or not with all it needs."""
        three = [self.over((u, v)), self.meeting(), (s, t, 1)]
        counts = only(list(zip(*three)))
        if counts is None or counts[0] == 0 or counts[2] == 0:
            return None
        return counts[1] / counts[0]

    def lift(self, *seen):
        if self.refused(seen, self.meeting()):
            return self.refused(seen, self.meeting())
        asked, beside = self.lift_alone(*seen), self.lift_alone(*self.kept[1][0])
        if asked is None or beside is None:
            return [-33]
        return [0, (asked / beside).numerator, (asked / beside).denominator]

    def cut(self, u, v, a, b, c):
        if max(abs(a), abs(b)) > 1000 or abs(c) > 100000 or (a, b) == (0, 0):
            return [-22]
        if self.refused((u, v), self.meeting()):
            return self.refused((u, v), self.meeting())
        line = only([self.meeting(), self.over((u, v))])
        point = line and only([line, (a, b, c)])
        return place_told(point) if point else [-33]

    def fits(self):
        if self.refused((), self.meeting()):
            return [-16]
        floors, things = self.kept
        return [int(all(self.is_on_floor(*f) for f in floors) and all(self.is_on_track(*t) for t in things))]

    def state(self):
        floors, things = self.kept
        return [len(floors), len(things)] + [n for seen in floors + things for n in seen]


def reckoned(calls):
    one = Reckoned()
    return [one.answer(call) for call in calls]
