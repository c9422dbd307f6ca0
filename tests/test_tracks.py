"""track, track1, may, cut, fits: where what is seen in the one picture can be in the other."""

import unittest

from tests.helper import GREATEST, LEANING, LEAST, STILL, ask_in, turned, whole

# In LEANING the stand is (2, 2), back takes it to (1, 2).
THINGS = [(1, 0, 2, 3), (2, 2, 4, 2)]

# In LEANING the stand is beyond all, upwards: all tracks are upright. Back takes it to (1, -2).
ASIDE = [(1, 0, 2, 3), (2, 2, 3, 5)]

# In LEANING the stand is (2, 4), and back takes it to beyond all, upwards.
ASIDE_IN_FIRST = [(1, 0, 2, 3), (2, 2, 2, 4)]

# Takes (u, v) to ((2u - v) / (4 - v), 2v / (4 - v)): beyond all where v is 4.
FLEEING = turned(LEANING)

# In FLEEING the stand is beyond all, upwards, and (2, 4) is taken to it.
UPRIGHT = [(0, 0, 0, 3), (2, 0, 1, 5)]

# Rooms that are not ready, of every sort.
NOT_READY = [
    ([], []),
    ([], THINGS),
    (LEANING[:3], THINGS),
    (LEANING[:3] + LEANING[:1], THINGS),
    (LEANING, []),
    (LEANING, THINGS[:1]),
    (LEANING, [THINGS[0]] * 2),
    (STILL, [(1, 1, 3, 3), (5, 5, 90, 90)]),
    (LEANING, [(1, 0, 2, 0), (2, 2, 4, 2)]),
    (LEANING, [(2, 2, 4, 2), (1, 0, 2, 0)]),
]

ASKED = [("track", 0, 0), ("track1", 0, 0), ("may", 0, 0, 1, 1), ("lift", 0, 0, 1, 1), ("cut", 0, 0, 1, 0, -5)]
POINT_NUMBERS = {"track": 2, "track1": 2, "may": 4, "lift": 4, "cut": 2}


def with_number(call, place, number):
    """The call with another number at one of its places."""
    return call[:place + 1] + (number,) + call[place + 2:]


class Refused(unittest.TestCase):
    """What holds of all calls that ask for it to be ready."""

    def test_outside(self):
        for floors, things in [(LEANING, THINGS)] + NOT_READY:
            for call in ASKED:
                for place in range(POINT_NUMBERS[call[0]]):
                    for number in (-1, 101, -100, 1000, LEAST, GREATEST):
                        asked = with_number(call, place, number)
                        with self.subTest((floors, things, asked)):
                            self.assertEqual(ask_in(floors, things, asked), [[-22]])

    def test_the_edges_are_taken(self):
        for call in ASKED:
            for place in range(POINT_NUMBERS[call[0]]):
                for number in (0, 100):
                    asked = with_number(call, place, number)
                    with self.subTest(asked):
                        self.assertNotIn(ask_in(LEANING, THINGS, asked)[0], ([-22], [-16]))

    def test_not_ready(self):
        for floors, things in NOT_READY:
            with self.subTest((floors, things)):
                self.assertEqual(ask_in(floors, things, *ASKED, ("fits",)), [[-16]] * 6)

    def test_not_ready_is_named_before_what_is_not_told(self):
        one = THINGS[:1]
        told = ask_in(LEANING, one, ("track", 1, 2), ("track1", 2, 2), ("cut", 0, 0, 1, -1, 0), ("lift", 0, 0, 2, 2))
        self.assertEqual(told, [[-16]] * 4)

    def test_it_is_ready_and_then_not(self):
        told = ask_in(LEANING, THINGS, ("drop", 1, 1), *ASKED, ("fits",), ("thing", *THINGS[1]), *ASKED, ("fits",))
        self.assertEqual(told[:7], [[1]] + [[-16]] * 6)
        self.assertEqual(told[7:], [[1], [0, 1, -1, 0], [0, 2, -1, 0], [1], [0, -1, 3], whole(5, 5), [1]])

    def test_the_floors_known_and_then_not(self):
        told = ask_in(LEANING, THINGS, ("drop", 0, 2), *ASKED, ("fits",), ("floor", *LEANING[2]), ("track", 0, 0))
        self.assertEqual(told, [[3]] + [[-16]] * 6 + [[3], [0, 1, -1, 0]])


class Track(unittest.TestCase):
    def assert_tracks(self, floors, things, lines):
        for point, line in lines.items():
            with self.subTest(point):
                self.assertEqual(ask_in(floors, things, ("track", *point)), [line])
                self.assertEqual(ask_in(turned(floors), turned(things), ("track1", *point)), [line])

    def test_through_the_stand(self):
        # Where they are taken: (0, 0), (2, 4/3), (1, 2), (2/3, 4/3), (3, 3), (4, 0).
        self.assert_tracks(LEANING, THINGS, {
            (0, 0): [0, 1, -1, 0], (1, 1): [0, 1, 0, -2], (0, 2): [0, 0, 1, -2], (0, 1): [0, 1, -2, 2],
            (3, 6): [0, 1, -1, 0], (2, 0): [0, 1, 1, -4],
        })

    def test_of_what_is_on_one_line_with_the_stand_it_is_the_same(self):
        # Both are taken to the line x = y, one to either side of the stand.
        self.assertEqual(ask_in(LEANING, THINGS, ("track", 0, 0), ("track", 3, 6)), [[0, 1, -1, 0]] * 2)

    def test_of_a_thing_it_is_its_line(self):
        self.assertEqual(ask_in(LEANING, THINGS, ("track", 1, 0), ("track", 2, 2)), [[0, 1, 0, -2], [0, 0, 1, -2]])

    def test_without_a_common_divisor_and_the_first_above_0(self):
        # The stand is (20, 20), and across takes each point to itself.
        things = [(20, 0, 20, 5), (0, 20, 7, 20)]
        self.assert_tracks(STILL, things, {
            (0, 0): [0, 1, -1, 0], (100, 100): [0, 1, -1, 0], (0, 40): [0, 1, 1, -40], (40, 0): [0, 1, 1, -40],
            (20, 100): [0, 1, 0, -20], (20, 0): [0, 1, 0, -20], (0, 20): [0, 0, 1, -20], (100, 20): [0, 0, 1, -20],
            (0, 10): [0, 1, -2, 20], (40, 30): [0, 1, -2, 20], (14, 16): [0, 2, -3, 20], (26, 24): [0, 2, -3, 20],
            (24, 14): [0, 3, 2, -100], (16, 26): [0, 3, 2, -100],
        })

    def test_numbers_that_are_0(self):
        # The stand is (0, 0).
        things = [(0, 3, 0, 7), (3, 0, 7, 0)]
        self.assert_tracks(STILL, things, {
            (0, 5): [0, 1, 0, 0], (5, 0): [0, 0, 1, 0], (6, 4): [0, 2, -3, 0], (0, 0): [-33],
        })

    def test_a_stand_between_whole_numbers(self):
        # The stand is (3/4, 1/4).
        things = [(0, 0, 3, 1), (1, 0, 0, 1)]
        self.assert_tracks(STILL, things, {
            (0, 0): [0, 1, -3, 0], (1, 0): [0, 1, 1, -1], (1, 1): [0, 3, -1, -2], (0, 2): [0, 7, 3, -6],
        })

    def test_a_stand_beyond_all(self):
        self.assert_tracks(LEANING, ASIDE, {(0, 0): [0, 1, 0, 0], (1, 1): [0, 1, 0, -2], (0, 1): [0, 3, 0, -2]})
        level = [(1, 1, 3, 1), (2, 5, 9, 5)]
        self.assert_tracks(STILL, level, {(7, 0): [0, 0, 1, 0], (7, 3): [0, 0, 1, -3], (100, 100): [0, 0, 1, -100]})

    def test_taken_to_the_stand(self):
        self.assert_tracks(LEANING, THINGS, {(1, 2): [-33]})
        self.assert_tracks(STILL, [(20, 0, 20, 5), (0, 20, 7, 20)], {(20, 20): [-33]})

    def test_taken_to_beyond_all(self):
        # The stand is (5, 0); (2, 4) is taken upwards, (3, 4) is taken along 1, 4.
        self.assert_tracks(FLEEING, [(2, 4, 5, 7), (0, 0, 1, 0)], {(2, 4): [0, 1, 0, -5], (3, 4): [0, 4, -1, -20]})

    def test_taken_to_a_stand_beyond_all(self):
        self.assertEqual(ask_in(FLEEING, UPRIGHT, ("stand",), ("stand1",)), [[-6], whole(2, 4)])
        self.assert_tracks(FLEEING, UPRIGHT, {(2, 4): [-33]})

    def test_a_track_that_is_beyond_all(self):
        self.assert_tracks(FLEEING, UPRIGHT, {(0, 4): [-33], (3, 4): [-33], (100, 4): [-33], (3, 3): [0, 1, 0, -3]})


class FirstTrack(unittest.TestCase):
    def assert_tracks(self, things, lines):
        for point, line in lines.items():
            with self.subTest(point):
                self.assertEqual(ask_in(LEANING, things, ("track1", *point)), [line])

    def test_through_where_back_takes_the_stand(self):
        # Where they are taken back: (0, 0), (2, 0), (3/2, 2), (0, 2), (1, 2/3), (-2, -6).
        self.assert_tracks(THINGS, {
            (0, 0): [0, 2, -1, 0], (4, 0): [0, 2, 1, -4], (0, 2): [0, 0, 1, -2], (1, 2): [0, 0, 1, -2],
            (2, 1): [0, 1, 0, -1], (5, 6): [0, 8, -3, -2],
        })

    def test_the_stand_itself(self):
        self.assert_tracks(THINGS, {(2, 2): [-33]})

    def test_a_stand_beyond_all(self):
        # It is taken back to (1, -2).
        self.assert_tracks(ASIDE, {(0, 0): [0, 2, 1, 0], (2, 0): [0, 1, 0, -1], (2, 4): [0, 1, 0, -1]})

    def test_a_stand_taken_back_to_beyond_all(self):
        self.assert_tracks(ASIDE_IN_FIRST, {(0, 0): [0, 1, 0, 0], (4, 0): [0, 1, 0, -2], (0, 1): [0, 3, 0, 1]})

    def test_a_stand_that_is_seen_and_taken_back_to_beyond_all(self):
        self.assert_tracks(ASIDE_IN_FIRST, {(2, 4): [-33]})

    def test_a_track_that_is_beyond_all(self):
        self.assert_tracks(ASIDE_IN_FIRST, {(0, 4): [-33], (1, 4): [-33], (3, 4): [-33], (100, 4): [-33]})

    def test_a_point_taken_back_to_beyond_all(self):
        # Back takes (3, 4) along 1, 4, and the stand to (1, 2).
        self.assert_tracks(THINGS, {(3, 4): [0, 4, -1, -2], (2, 4): [0, 1, 0, -1]})


class May(unittest.TestCase):
    def assert_may(self, floors, things, point, may, may_not):
        for answer, others in ((1, may), (0, may_not)):
            for other in others:
                with self.subTest((point, other)):
                    self.assertEqual(ask_in(floors, things, ("may", *point, *other)), [[answer]])

    def test_on_its_track_or_not(self):
        self.assert_may(LEANING, THINGS, (0, 0), [(0, 0), (1, 1), (2, 2), (100, 100)], [(0, 1), (1, 0), (99, 100)])
        self.assert_may(LEANING, THINGS, (0, 1), [(0, 1), (2, 2), (4, 3), (98, 50)], [(0, 0), (0, 2), (2, 3), (97, 50)])

    def test_the_things_themselves(self):
        for seen in THINGS:
            self.assert_may(LEANING, THINGS, seen[:2], [seen[2:]], [(1, 0)])

    def test_what_is_on_the_floor(self):
        for seen in LEANING + [(5, 2, 6, 2)]:
            self.assert_may(LEANING, THINGS, seen[:2], [seen[2:]], [(100, 1)])

    def test_at_the_stand_may_be_anything(self):
        for u in range(0, 101, 20):
            self.assert_may(LEANING, THINGS, (u, 3), [(2, 2)], [])

    def test_taken_to_the_stand_it_may_be_anywhere(self):
        self.assert_may(LEANING, THINGS, (1, 2), [(0, 0), (2, 2), (100, 0), (37, 91)], [])

    def test_taken_to_a_stand_beyond_all_it_may_be_anywhere(self):
        self.assert_may(FLEEING, UPRIGHT, (2, 4), [(0, 0), (2, 4), (100, 0), (37, 91)], [])

    def test_a_track_that_is_beyond_all(self):
        self.assert_may(FLEEING, UPRIGHT, (3, 4), [], [(0, 0), (3, 4), (100, 0), (37, 91)])

    def test_a_stand_beyond_all(self):
        self.assert_may(LEANING, ASIDE, (1, 1), [(2, 0), (2, 100)], [(1, 0), (3, 0)])

    def test_taken_to_beyond_all(self):
        things = [(2, 4, 5, 7), (0, 0, 1, 0)]
        self.assert_may(FLEEING, things, (3, 4), [(5, 0), (6, 4), (30, 100)], [(5, 1), (7, 4)])


class Cut(unittest.TestCase):
    def assert_cuts(self, floors, things, point, cuts):
        for line, answer in cuts.items():
            with self.subTest((point, line)):
                self.assertEqual(ask_in(floors, things, ("cut", *point, *line)), [answer])

    def test_where_they_meet(self):
        self.assert_cuts(LEANING, THINGS, (0, 0), {
            (1, 0, -5): whole(5, 5), (0, 1, -5): whole(5, 5), (-1, 0, 5): whole(5, 5), (7, 0, -35): whole(5, 5),
            (1, 0, -2): whole(2, 2), (1, 1, 0): whole(0, 0), (1, 0, 0): whole(0, 0), (1, 0, -200): whole(200, 200),
        })

    def test_fractions(self):
        self.assert_cuts(LEANING, THINGS, (0, 0), {
            (2, 3, -1): [0, 1, 5, 1, 5], (-2, -3, 1): [0, 1, 5, 1, 5], (2, 3, 1): [0, -1, 5, -1, 5],
            (1, 1, 3): [0, -3, 2, -3, 2], (4, 2, -10): [0, 5, 3, 5, 3],
        })
        # Its track is x - 2y + 2 = 0.
        self.assert_cuts(LEANING, THINGS, (0, 1), {
            (3, -1, 0): [0, 2, 5, 6, 5], (-2, -2, 1): [0, -1, 3, 5, 6], (1, 1, -1): whole(0, 1), (0, 1, 0): whole(-2, 0),
        })

    def test_beyond_all(self):
        self.assert_cuts(LEANING, THINGS, (0, 0), {
            (1, -1, 7): [-6], (-1, 1, 7): [-6], (1000, -1000, 1): [-6], (1, -1, -100000): [-6], (1, -2, 7): whole(7, 7),
        })
        self.assert_cuts(LEANING, THINGS, (1, 1), {(1, 0, 0): [-6], (-9, 0, 4): [-6]})
        self.assert_cuts(LEANING, THINGS, (0, 2), {(0, 1, 0): [-6], (0, -9, 4): [-6]})

    def test_the_track_itself(self):
        self.assert_cuts(LEANING, THINGS, (0, 0), {
            (1, -1, 0): [-33], (-1, 1, 0): [-33], (1000, -1000, 0): [-33], (-3, 3, 0): [-33], (1, -1, 1): [-6],
        })
        self.assert_cuts(LEANING, THINGS, (0, 1), {(1, -2, 2): [-33], (-500, 1000, -1000): [-33]})
        self.assert_cuts(LEANING, THINGS, (1, 1), {(3, 0, -6): [-33]})

    def test_taken_to_the_stand(self):
        self.assert_cuts(LEANING, THINGS, (1, 2), {(1, 0, -5): [-33], (1, 0, -2): [-33], (1, -1, 0): [-33]})

    def test_a_stand_beyond_all(self):
        self.assert_cuts(LEANING, ASIDE, (1, 1), {
            (0, 1, -7): whole(2, 7), (1, 1, 0): whole(2, -2), (1, 0, -1): [-6], (1, 0, -2): [-33],
        })

    def test_a_track_that_is_beyond_all(self):
        lines = [(1, 0, 0), (0, 1, 0), (4, -1, 7), (1000, 1000, 100000)]
        self.assert_cuts(FLEEING, UPRIGHT, (3, 4), {line: [-6] for line in lines})

    def test_taken_to_a_stand_beyond_all(self):
        lines = [(1, 0, 0), (0, 1, 0), (4, -1, 7), (1000, 1000, 100000)]
        self.assert_cuts(FLEEING, UPRIGHT, (2, 4), {line: [-33] for line in lines})

    def test_the_edges_of_a_line(self):
        self.assert_cuts(LEANING, THINGS, (0, 0), {
            (1000, 1000, 100000): whole(-50, -50), (-1000, -1000, 100000): whole(50, 50),
            (1000, 1000, -100000): whole(50, 50), (-1000, -1000, -100000): whole(-50, -50),
            (1000, 0, -100000): whole(100, 100), (0, -1000, 100000): whole(100, 100),
            (1, 0, 100000): whole(-100000, -100000), (0, 1, -100000): whole(100000, 100000),
        })

    def test_outside_the_edges_of_a_line(self):
        wrong = [
            (1001, 1, 0), (-1001, 1, 0), (1, 1001, 0), (1, -1001, 0), (1, 1, 100001), (1, 1, -100001), (LEAST, 1, 0),
            (1, LEAST, 0), (1, 1, LEAST), (GREATEST, 1, 0), (1, GREATEST, 0), (1, 1, GREATEST), (0, 0, 0), (0, 0, 1),
            (0, 0, 100000), (0, 0, -100001), (1001, -1001, 0), (0, 1001, 0), (1001, 0, 0), (-1001, 0, 0), (0, -1001, 0),
        ]
        for floors, things in [(LEANING, THINGS)] + NOT_READY:
            for point in ((0, 0), (1, 2)):
                self.assert_cuts(floors, things, point, {line: [-22] for line in wrong})

    def test_one_of_the_two_may_be_0(self):
        self.assert_cuts(LEANING, THINGS, (0, 0), {(1, 0, 0): whole(0, 0), (0, 1, 0): whole(0, 0)})

    def test_a_wrong_point_and_a_wrong_line(self):
        self.assert_cuts(LEANING, THINGS, (101, 0), {(0, 0, 0): [-22], (1001, 0, 0): [-22]})


class Fits(unittest.TestCase):
    def assert_fits(self, answer, more_floors, more_things):
        told = ask_in(LEANING + more_floors, THINGS + more_things, ("fits",))
        self.assertEqual(told, [[answer]])

    def test_four_and_two(self):
        self.assert_fits(1, [], [])

    def test_a_fifth_and_sixth_floor_point_that_fit(self):
        self.assert_fits(1, [(5, 2, 6, 2)], [])
        self.assert_fits(1, [(5, 2, 6, 2), (3, 6, 3, 3)], [])
        self.assert_fits(1, [LEANING[0], (1, 2, 2, 2)], [])

    def test_a_fifth_floor_point_that_does_not_fit(self):
        self.assert_fits(0, [(5, 2, 6, 3)], [])
        self.assert_fits(0, [(1, 1, 2, 1)], [])
        self.assert_fits(0, [(5, 2, 6, 3), (3, 6, 3, 3)], [])

    def test_a_floor_point_on_its_track_does_not_fit_for_that(self):
        self.assert_fits(0, [(0, 0, 1, 1)], [])
        self.assert_fits(0, [(1, 2, 9, 9)], [])

    def test_a_sixth_floor_point_that_does_not_fit(self):
        self.assert_fits(0, [(5, 2, 6, 2), (3, 6, 3, 4)], [])

    def test_things_on_their_tracks(self):
        self.assert_fits(1, [], [(0, 0, 1, 1)])
        self.assert_fits(1, [(5, 2, 6, 2)], [(0, 0, 1, 1), (0, 1, 4, 3), (1, 1, 2, 50), (0, 0, 100, 100)])

    def test_a_thing_off_its_track(self):
        for off in range(4):
            things = [(0, 0, 1, 1), (0, 1, 4, 3), (1, 1, 2, 50), (0, 0, 100, 100)]
            things[off] = (0, 0, 1, 2)
            self.assert_fits(0, [], things)

    def test_a_thing_that_is_on_the_floor(self):
        self.assert_fits(1, [], [(5, 2, 6, 2), LEANING[0]])

    def test_a_thing_seen_at_the_stand(self):
        self.assert_fits(1, [], [(77, 31, 2, 2)])

    def test_a_thing_taken_to_the_stand_is_on_its_track(self):
        self.assert_fits(1, [], [(1, 2, 77, 31), (1, 2, 2, 2)])
        self.assertEqual(ask_in(LEANING, [(1, 2, 2, 9), (2, 2, 4, 2)], ("fits",)), [[1]])
        self.assertEqual(ask_in(FLEEING, UPRIGHT + [(2, 4, 77, 31)], ("fits",)), [[1]])

    def test_a_thing_whose_track_is_beyond_all(self):
        self.assertEqual(ask_in(FLEEING, UPRIGHT + [(3, 4, 77, 31)], ("fits",)), [[0]])

    def test_what_does_not_fit_gone(self):
        floors, things = LEANING + [(5, 2, 6, 3)], THINGS + [(0, 0, 1, 2)]
        calls = [("fits",), ("drop", 0, 4), ("fits",), ("drop", 1, 2), ("fits",)]
        self.assertEqual(ask_in(floors, things, *calls), [[0], [4], [0], [2], [1]])

    def test_thing_0_gone(self):
        # With the other two the stand is the same; with those of the second room it is beyond all, level.
        calls = [("fits",), ("drop", 1, 0), ("fits",), ("stand",), ("drop", 1, 0), ("fits",)]
        told = ask_in(LEANING, THINGS + [(0, 0, 1, 1)], *calls)
        self.assertEqual(told, [[1], [2], [1], whole(2, 2), [1], [-16]])
        told = ask_in(LEANING, THINGS + [(0, 0, 100, 0)], *calls)
        self.assertEqual(told, [[0], [2], [1], [-6], [1], [-16]])


if __name__ == "__main__":
    unittest.main()
