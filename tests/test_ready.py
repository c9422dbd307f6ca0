"""ready: when the floors are known, and when it is ready."""

import unittest
from itertools import combinations, permutations

from tests.helper import LEANING, STILL, ask, ask_in, turned

# On the floor each thing here has a line of its own, and they meet at (2, 2).
THINGS = [(1, 0, 2, 3), (2, 2, 4, 2)]

SQUARE = [(10, 10), (90, 10), (90, 80), (10, 80)]


def both(first, second):
    return [(*p, *q) for p, q in zip(first, second)]


def put_on_a_line(a, b, c):
    """The square, but with c on the line of a and b."""
    points = list(SQUARE)
    points[c] = tuple((x + y) // 2 for x, y in zip(points[a], points[b]))
    return points


class FloorsKnown(unittest.TestCase):
    def assert_unknown(self, floors):
        self.assertEqual(ask_in(floors, THINGS, ("ready",)), [[0]])
        told = ask_in(floors, THINGS, ("across", 1, 1), ("back", 1, 1), ("stand",), ("stand1",))
        self.assertEqual(told, [[-16]] * 4)

    def test_fewer_than_four(self):
        for many in range(4):
            with self.subTest(many):
                self.assert_unknown(LEANING[:many])

    def test_four(self):
        self.assertEqual(ask_in(LEANING, [], ("ready",)), [[1]])
        self.assertEqual(ask_in(STILL, [], ("ready",)), [[1]])

    def test_four_in_whatever_order(self):
        for order in permutations(LEANING):
            self.assertEqual(ask_in(order, [], ("ready",)), [[1]])

    def test_three_on_a_line_in_one_picture(self):
        for three in combinations(range(4), 3):
            for a, b, c in permutations(three):
                with self.subTest((a, b, c)):
                    floors = both(put_on_a_line(a, b, c), SQUARE)
                    self.assert_unknown(floors)
                    self.assert_unknown(turned(floors))

    def test_two_the_same_in_one_picture(self):
        for a, b in permutations(range(4), 2):
            points = list(SQUARE)
            points[a] = points[b]
            with self.subTest((a, b)):
                self.assert_unknown(both(points, SQUARE))
                self.assert_unknown(both(SQUARE, points))

    def test_the_same_floor_point_twice(self):
        self.assert_unknown(LEANING[:3] + LEANING[2:3])
        self.assert_unknown([LEANING[0]] * 6)

    def test_just_beside_a_line(self):
        floors = both([(0, 0), (50, 50), (100, 99), (0, 100)], SQUARE)
        self.assertEqual(ask_in(floors, [], ("ready",)), [[1]])
        self.assertEqual(ask_in(turned(floors), [], ("ready",)), [[1]])
        self.assert_unknown(both([(0, 0), (50, 50), (100, 100), (0, 100)], SQUARE))

    def test_upright_and_level_lines(self):
        for line in ([(7, 0), (7, 3), (7, 100)], [(0, 7), (3, 7), (100, 7)]):
            self.assert_unknown(both(line + [(50, 50)], SQUARE))
            self.assert_unknown(both(SQUARE, line + [(50, 50)]))

    def test_a_fifth_and_sixth_are_not_asked(self):
        self.assertEqual(ask_in(LEANING + [LEANING[0], LEANING[1]], [], ("ready",)), [[1]])
        self.assertEqual(ask_in(LEANING + [(9, 9, 0, 0), (9, 9, 9, 9)], THINGS, ("ready",)), [[2]])
        self.assert_unknown([LEANING[0], LEANING[0]] + LEANING)

    def test_the_four_one_by_one(self):
        asked = [("ready",)]
        calls = [("start",)] + asked
        for f in LEANING:
            calls += [("floor", *f)] + asked
        self.assertEqual(ask(*calls), [[0], [0], [0], [0], [1], [0], [2], [0], [3], [1]])


class Ready(unittest.TestCase):
    def assert_not_ready(self, floors, things):
        self.assertEqual(ask_in(floors, things, ("ready",), ("stand",), ("stand1",)), [[1], [-16], [-16]])

    def test_fewer_than_two_things(self):
        self.assert_not_ready(LEANING, [])
        for one in THINGS:
            self.assert_not_ready(LEANING, [one])

    def test_two_things_whose_lines_meet(self):
        self.assertEqual(ask_in(LEANING, THINGS, ("ready",)), [[2]])
        self.assertEqual(ask_in(LEANING, THINGS[::-1], ("ready",)), [[2]])

    def test_things_ahead_of_floor_points(self):
        calls = [("start",)] + [("thing", *t) for t in THINGS] + [("ready",)] + [("floor", *f) for f in LEANING]
        told = ask(*calls, ("ready",))
        self.assertEqual(told[3], [0])
        self.assertEqual(told[-1], [2])

    def test_lines_that_meet_beyond_all(self):
        self.assertEqual(ask_in(LEANING, [(1, 0, 2, 3), (2, 2, 3, 5)], ("ready",)), [[2]])
        self.assertEqual(ask_in(STILL, [(1, 1, 3, 5), (2, 1, 4, 5)], ("ready",)), [[2]])

    def test_two_things_on_one_line(self):
        self.assert_not_ready(STILL, [(1, 1, 3, 3), (5, 5, 90, 90)])
        self.assert_not_ready(STILL, [(1, 1, 3, 3), (7, 7, 4, 4)])
        self.assert_not_ready(LEANING, [(1, 0, 2, 3), (1, 0, 2, 9)])
        self.assert_not_ready(LEANING, [(1, 0, 5, 0), (2, 0, 90, 0)])

    def test_the_same_thing_twice(self):
        for one in THINGS:
            self.assert_not_ready(LEANING, [one, one])

    def test_a_thing_on_the_floor(self):
        on_the_floor = [(1, 0, 2, 0), (5, 2, 6, 2), (3, 6, 3, 3), LEANING[2]]
        for one in on_the_floor:
            for other in THINGS:
                with self.subTest((one, other)):
                    self.assert_not_ready(LEANING, [one, other])
                    self.assert_not_ready(LEANING, [other, one])
            self.assert_not_ready(LEANING, [one, one])
        self.assert_not_ready(LEANING, on_the_floor[:2])

    def test_the_first_two_things_alone_are_asked(self):
        self.assertEqual(ask_in(LEANING, THINGS + [THINGS[0], (1, 0, 2, 0)], ("ready",)), [[2]])
        self.assert_not_ready(LEANING, [THINGS[0], THINGS[0], THINGS[1]])
        self.assert_not_ready(LEANING, [(1, 0, 2, 0)] + THINGS)

    def test_a_thing_that_across_takes_to_beyond_all(self):
        # Across takes (2, 4) to beyond all, upwards: its line is upright.
        floors = turned(LEANING)
        self.assertEqual(ask_in(floors, [], ("across", 2, 4)), [[-6]])
        self.assertEqual(ask_in(floors, [(2, 4, 5, 7), (0, 0, 1, 0)], ("ready",), ("stand",)), [[2], [0, 5, 1, 0, 1]])
        self.assert_not_ready(floors, [(2, 4, 5, 7), (2, 4, 5, 9)])


if __name__ == "__main__":
    unittest.main()
