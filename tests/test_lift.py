"""lift: how far off the floor something is, beside thing 0."""

import unittest

from tests.helper import LEANING, STILL, ask_in, turned

# (u, v) is taken to 4u + 2v, 4v, 2 + v; the stand is 2, 2, 1. The lifts of the two are -6 and -2.
THINGS = [(1, 0, 2, 3), (2, 2, 4, 2)]


class Lift(unittest.TestCase):
    def assert_lifts(self, floors, things, lifts):
        for seen, answer in lifts.items():
            with self.subTest(seen):
                self.assertEqual(ask_in(floors, things, ("lift", *seen)), [answer])

    def test_beside_thing_0(self):
        # So many times 2, 2, 1 are put to 0, 0, 2: 2 makes 4, 4, 4; -6 makes -12, -12, -4; -3 makes -6, -6, -1.
        self.assert_lifts(LEANING, THINGS, {
            (0, 0, 1, 1): [0, -1, 3], (0, 0, 3, 3): [0, 1, 1], (0, 0, 6, 6): [0, 1, 2], (2, 2, 4, 2): [0, 1, 3],
        })

    def test_of_thing_0_it_is_1(self):
        self.assert_lifts(LEANING, THINGS, {THINGS[0]: [0, 1, 1]})
        self.assert_lifts(LEANING, THINGS[::-1], {THINGS[1]: [0, 1, 1], THINGS[0]: [0, 3, 1], (0, 0, 1, 1): [0, -1, 1]})

    def test_above_0_and_below_0(self):
        # The stand is 20, 20, 1; each point is taken to itself. 1 time the stand puts (20, 0) at (20, 10).
        things = [(20, 0, 20, 10), (0, 20, 5, 20)]
        self.assert_lifts(STILL, things, {
            (0, 0, 10, 10): [0, 1, 1], (0, 0, 5, 5): [0, 1, 3], (0, 0, 15, 15): [0, 3, 1], (0, 0, 30, 30): [0, -3, 1],
            (10, 10, 0, 0): [0, -1, 2], (10, 10, 19, 19): [0, 9, 1], (10, 10, 21, 21): [0, -11, 1],
            (0, 20, 5, 20): [0, 1, 3], (30, 30, 0, 0): [0, -3, 2], (100, 20, 0, 20): [0, -5, 1],
        })

    def test_on_the_floor(self):
        for seen in LEANING + [(1, 0, 2, 0), (5, 2, 6, 2), (3, 6, 3, 3)]:
            self.assert_lifts(LEANING, THINGS, {seen: [0, 0, 1]})
            self.assert_lifts(LEANING, THINGS[::-1], {seen: [0, 0, 1]})

    def test_a_stand_beyond_all(self):
        # 6 times 0, 1, 0 are put to 4, 0, 2; then 12 to 12, 8, 4; then 10 to 0, 0, 2.
        self.assert_lifts(LEANING, [(1, 0, 2, 3), (2, 2, 3, 5)], {
            (1, 0, 2, 3): [0, 1, 1], (2, 2, 3, 5): [0, 2, 1], (0, 0, 0, 5): [0, 5, 3], (2, 2, 3, 0): [0, -4, 3],
            (2, 2, 3, 2): [0, 0, 1], (2, 2, 2, 5): [-33],
        })

    def test_taken_to_beyond_all(self):
        # 8/7 times 5, 0, 1 are put to 0, 8, 0; then 1 time to 0, 0, 4.
        self.assert_lifts(turned(LEANING), [(2, 4, 5, 7), (0, 0, 1, 0)], {
            (2, 4, 5, 7): [0, 1, 1], (0, 0, 1, 0): [0, 7, 8], (2, 4, 5, 8): [0, 7, 8], (2, 4, 5, 1): [0, 7, 1],
        })

    def test_a_stand_between_whole_numbers(self):
        # -4/3 times 3/4, 1/4, 1 are put to 0, 0, 1, and to 1, 0, 1; then -8/7 to 0, 0, 1; then -4 to 3, 1, 1.
        self.assert_lifts(STILL, [(0, 0, 3, 1), (1, 0, 0, 1)], {
            (1, 0, 0, 1): [0, 1, 1], (0, 0, 6, 2): [0, 6, 7], (0, 0, 0, 0): [0, 0, 1], (3, 1, 0, 0): [0, 3, 1],
        })

    def test_taken_to_the_stand(self):
        self.assert_lifts(LEANING, THINGS, {(1, 2, 5, 5): [-33], (1, 2, 2, 2): [-33], (1, 2, 0, 100): [-33]})

    def test_thing_0_taken_to_the_stand(self):
        things = [(1, 2, 2, 9), (2, 2, 4, 2)]
        self.assert_lifts(LEANING, things, {seen: [-33] for seen in (*things, (0, 0, 1, 1), (0, 0, 0, 0))})

    def test_thing_1_taken_to_the_stand(self):
        things = [(2, 2, 4, 2), (1, 2, 2, 9)]
        self.assert_lifts(LEANING, things, {(2, 2, 4, 2): [0, 1, 1], (1, 2, 2, 9): [-33], (0, 0, 1, 1): [0, -1, 1]})

    def test_not_on_its_track(self):
        self.assert_lifts(LEANING, THINGS, {(0, 0, 1, 2): [-33], (0, 0, 0, 1): [-33], (1, 0, 3, 3): [-33]})

    def test_at_the_stand(self):
        self.assert_lifts(LEANING, THINGS, {(0, 0, 2, 2): [-33], (77, 31, 2, 2): [-33], (2, 2, 2, 2): [-33]})

    def test_thing_0_seen_at_the_stand(self):
        things = [(1, 0, 2, 2), (2, 2, 4, 2)]
        self.assert_lifts(LEANING, things, {seen: [-33] for seen in (*things, (0, 0, 1, 1), (0, 0, 0, 0))})

    def test_thing_1_seen_at_the_stand(self):
        things = [(2, 2, 4, 2), (1, 0, 2, 2)]
        self.assert_lifts(LEANING, things, {(2, 2, 4, 2): [0, 1, 1], (1, 0, 2, 2): [-33], (0, 0, 1, 1): [0, -1, 1]})

    def test_a_track_that_is_beyond_all(self):
        upright = [(0, 0, 0, 3), (2, 0, 1, 5)]
        self.assert_lifts(turned(LEANING), upright, {(3, 4, 5, 5): [-33], (3, 4, 3, 4): [-33]})

    def test_taken_to_a_stand_beyond_all(self):
        upright = [(0, 0, 0, 3), (2, 0, 1, 5)]
        self.assert_lifts(turned(LEANING), upright, {(2, 4, 5, 5): [-33], (2, 4, 2, 4): [-33], upright[0]: [0, 1, 1]})

    def test_thing_0_gone(self):
        things = THINGS + [(0, 0, 1, 1)]
        asked = ("lift", 0, 0, 3, 3)
        told = ask_in(LEANING, things, asked, ("drop", 1, 0), asked, ("drop", 1, 0), asked)
        self.assertEqual(told, [[0, 1, 1], [2], [0, 3, 1], [1], [-16]])

    def test_thing_1_gone(self):
        things = THINGS + [(0, 0, 1, 1)]
        asked = ("lift", 0, 0, 6, 6)
        told = ask_in(LEANING, things, asked, ("drop", 1, 1), asked, ("drop", 1, 1), asked)
        self.assertEqual(told, [[0, 1, 2], [2], [0, 1, 2], [1], [-16]])

    def test_in_whatever_order_the_four_stand(self):
        lifts = {(0, 0, 1, 1): [0, -1, 3], (2, 2, 4, 2): [0, 1, 3]}
        for turn in range(4):
            self.assert_lifts(LEANING[turn:] + LEANING[:turn], THINGS, lifts)


if __name__ == "__main__":
    unittest.main()
