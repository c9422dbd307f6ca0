"""What holds over the whole program: a to d of the document, the shape of all answers, and a second reckoning."""

import random
import unittest
from fractions import Fraction
from itertools import product

from roomtwice.pictures import answers
from tests.helper import GREATEST, LEANING, LEAST, STILL, ask, ask_in, flat, only, place_told, reckoned, room
from tests.helper import turned, whole

# How many points of a picture a call is handed.
POINTS = {
    "floor": 2, "thing": 2, "across": 1, "back": 1, "track": 1, "track1": 1, "may": 2, "lies": 2, "lift": 2, "cut": 1,
}
FIRSTS = {
    "across": (0, -6, -16, -22),
    "back": (0, -6, -16, -22),
    "stand": (0, -6, -16),
    "stand1": (0, -6, -16),
    "ready": (0, 1, 2),
    "track": (0, -16, -22, -33),
    "track1": (0, -16, -22, -33),
    "may": (0, 1, -16, -22),
    "lies": (0, 1, -16, -22),
    "lift": (0, -16, -22, -33),
    "cut": (0, -6, -16, -22, -33),
    "fits": (0, 1, -16),
}


class Sealed(list):
    """A list that can't be changed."""

    def refuse(self, *whatever):
        raise AssertionError("what is handed in was changed")

    append = clear = extend = insert = pop = remove = reverse = sort = refuse
    __setitem__ = __delitem__ = __iadd__ = __imul__ = refuse


class InTruth(unittest.TestCase):
    """Rooms that are known, and two pictures taken of them."""

    # Each row: so many times x, y, z (up from the floor) and 1; the third row is what is divided by.
    CAMERAS = [
        (((4, 0, 2, 6), (2, 4, -3, 4), (0, 0, 0, 2)), ((12, 6, 0, 66), (-6, 12, -9, 24), (0, 1, -1, 1))),
        (((6, 4, -2, 0), (2, 6, -7, 24), (1, 0, -1, 1)), ((8, 4, -1, 32), (6, 8, 0, 24), (0, 0, 0, 1))),
        (((12, 2, -7, 60), (6, 12, 0, 0), (1, 0, 0, 1)), ((12, 6, -1, 60), (-6, 12, -5, 24), (1, 0, 0, 1))),
        (((6, 6, -2, 15), (4, 6, 2, 9), (0, 1, -1, 1)), ((8, 4, 4, 36), (4, 8, -4, 8), (0, 1, -1, 2))),
        (((12, 0, -2, 12), (0, 12, 7, 12), (0, 0, -1, 6)), ((6, 6, 3, 18), (-6, 6, 2, 33), (1, 0, -1, 5))),
    ]

    def shown(self, camera, point):
        return [sum(a * b for a, b in zip(row, point)) for row in camera]

    def on_the_picture(self, camera, point):
        x, y, w = self.shown(camera, point)
        if w == 0 or x % w or y % w or not (0 <= x // w <= 100 and 0 <= y // w <= 100):
            return None
        return (x // w, y // w)

    def seen_in_both(self, cameras, heights):
        """Of the whole and half steps of the room all that both pictures show at whole numbers.

        With how high each is off the floor, by how far it is from the first camera: the lift, up to a factor.
        """
        found = {}
        for parts in (1, 2):
            for x, y, z in product(range(13 * parts), range(13 * parts), heights):
                point = (x, y, z * parts, parts)
                places = [self.on_the_picture(camera, point) for camera in cameras]
                if None not in places:
                    found[places[0] + places[1]] = Fraction(z * parts, self.shown(cameras[0], point)[2])
        return found

    def four_corners(self, floors, choice):
        while True:
            four = choice.sample(floors, 4)
            if ask_in(four, [], ("ready",)) == [[1]]:
                return four

    def two_things(self, four, things, choice):
        while True:
            two = choice.sample(things, 2)
            if ask_in(four, two, ("ready",)) == [[2]]:
                return two

    def rooms(self, turns):
        """Of each pair of cameras some rooms that are ready; with all that is seen on the floor, and off it."""
        choice = random.Random(7)
        for cameras in self.CAMERAS:
            floors = list(self.seen_in_both(cameras, (0,)))
            things = self.seen_in_both(cameras, (1, 2, 3))
            for turn in range(turns):
                four = self.four_corners(floors, choice)
                yield cameras, four, self.two_things(four, list(things), choice), floors, things

    def test_the_floor_lies_where_it_is_told(self):
        for cameras, four, two, floors, things in self.rooms(10):
            for u, v, s, t in floors:
                told = ask_in(four, [], ("across", u, v), ("back", s, t), ("lies", u, v, s, t))
                self.assertEqual(told, [whole(s, t), whole(u, v), [1]])

    def test_what_is_off_the_floor_does_not_lie_on_it(self):
        for cameras, four, two, floors, things in self.rooms(3):
            stand = place_told(self.shown(cameras[1], only(cameras[0], 4)))
            for seen in things:
                told = ask_in(four, [], ("lies", *seen), ("across", *seen[:2]))
                self.assertTrue(told[0] == [0] or told[1] == stand)

    def test_the_stand_is_where_the_other_was_taken_from(self):
        for cameras, four, two, floors, things in self.rooms(10):
            stand = place_told(self.shown(cameras[1], only(cameras[0], 4)))
            stand1 = place_told(self.shown(cameras[0], only(cameras[1], 4)))
            self.assertEqual(ask_in(four, two, ("stand",), ("stand1",)), [stand, stand1])

    def test_whatever_is_seen_in_both_may_be(self):
        for cameras, four, two, floors, things in self.rooms(3):
            for seen in floors + list(things):
                self.assertEqual(ask_in(four, two, ("may", *seen)), [[1]])

    def test_it_fits(self):
        choice = random.Random(8)
        for cameras, four, two, floors, things in self.rooms(10):
            more = choice.sample(floors, 2)
            others = choice.sample(list(things), 4)
            self.assertEqual(ask_in(four + more, two + others, ("fits",)), [[1]])

    def test_the_lift_is_how_far_off_the_floor_it_is_beside_thing_0(self):
        told_ones = 0
        for cameras, four, two, floors, things in self.rooms(3):
            for seen in floors + list(things):
                told = ask_in(four, two, ("lift", *seen))[0]
                if told == [-33]:
                    continue
                beside = things.get(seen, Fraction(0)) / things[two[0]]
                self.assertEqual(told, [0, beside.numerator, beside.denominator])
                told_ones += 1
        self.assertGreater(told_ones, 500)


class AllAlong(unittest.TestCase):
    """b, c and d over many points of some rooms, whatever is seen."""

    ROOMS = [
        (LEANING, [(1, 0, 2, 3), (2, 2, 4, 2)]),
        (LEANING, [(1, 0, 2, 3), (2, 2, 3, 5)]),
        (LEANING, [(1, 0, 2, 3), (2, 2, 2, 4)]),
        (LEANING, [(1, 0, 5, 0), (2, 2, 9, 2)]),
        (LEANING, [(0, 0, 3, 1), (1, 0, 1, 1)]),
        (turned(LEANING), [(2, 4, 5, 7), (0, 0, 1, 0)]),
        (STILL, [(0, 0, 3, 1), (1, 0, 0, 1)]),
        (STILL, [(1, 1, 3, 5), (2, 1, 4, 5)]),
    ]
    POINTS = list(product(range(0, 6), range(0, 6)))

    def lies_on(self, line, place):
        """Whether a line that is told goes through a place that is told."""
        return line[1] * Fraction(place[1], place[2]) + line[2] * Fraction(place[3], place[4]) + line[3] == 0

    def test_all_tracks_go_through_the_stand(self):
        for floors, things in self.ROOMS:
            for tracks, stands in (("track", "stand"), ("track1", "stand1")):
                told = ask_in(floors, things, (stands,), *[(tracks, *point) for point in self.POINTS])
                lines = [line for line in told[1:] if line != [-33]]
                self.assertGreater(len(lines), 20)
                if told[0] == [-6]:
                    directions = {Fraction(line[1], line[2]) if line[2] else None for line in lines}
                    self.assertEqual(len(directions), 1)
                for line in lines:
                    self.assertTrue(told[0] == [-6] or self.lies_on(line, told[0]))

    def test_a_track_goes_through_where_the_point_is_taken(self):
        for floors, things in self.ROOMS:
            for tracks, takes in (("track", "across"), ("track1", "back")):
                for point in self.POINTS:
                    line, place = ask_in(floors, things, (tracks, *point), (takes, *point))
                    if line != [-33] and place != [-6]:
                        self.assertTrue(self.lies_on(line, place))

    def test_there_and_back_the_floor_is_the_same(self):
        for floors, things in self.ROOMS:
            for u, v, s, t in product(range(6), repeat=4):
                lies, there = ask_in(floors, things, ("lies", u, v, s, t), ("across", u, v))
                self.assertEqual(lies == [1], there == whole(s, t))
                if lies == [1]:
                    self.assertEqual(ask_in(floors, things, ("back", s, t)), [whole(u, v)])
                    self.assertEqual(ask_in(turned(floors), [], ("lies", s, t, u, v)), [[1]])

    def test_the_other_way_about(self):
        both = {0: 0, 1: 0}
        for floors, things in self.ROOMS:
            for u, v, s, t in product(range(5), repeat=4):
                may, line, line1 = ask_in(floors, things, ("may", u, v, s, t), ("track", u, v), ("track1", s, t))
                if line != [-33]:
                    self.assertEqual(may, [int(self.lies_on(line, whole(s, t)))])
                if line1 != [-33]:
                    self.assertEqual(may, [int(self.lies_on(line1, whole(u, v)))])
                    both[may[0]] += 1
        self.assertGreater(min(both.values()), 100)

    def test_with_the_pictures_the_other_way_about(self):
        for floors, things in self.ROOMS:
            for point in self.POINTS:
                there = [("stand",), ("stand1",), ("track", *point), ("track1", *point)]
                back = [("stand1",), ("stand",), ("track1", *point), ("track", *point)]
                told = ask_in(floors, things, *there)
                self.assertEqual(ask_in(turned(floors), turned(things), *back), told)

    def test_on_the_floor_is_just_what_has_no_lift(self):
        found = 0
        for floors, things in self.ROOMS:
            for u, v, s, t in product(range(5), repeat=4):
                lies, lift, stand = ask_in(floors, things, ("lies", u, v, s, t), ("lift", u, v, s, t), ("stand",))
                if lift != [-33]:
                    self.assertEqual(lies == [1], lift == [0, 0, 1])
                    found += lies[0]
        self.assertGreater(found, 20)

    def test_on_the_floor_without_a_lift_is_only_what_is_at_the_stand(self):
        floors, things = self.ROOMS[0]
        for u, v, s, t in product(range(5), repeat=4):
            lies, lift = ask_in(floors, things, ("lies", u, v, s, t), ("lift", u, v, s, t))
            if lies == [1] and lift == [-33]:
                self.assertEqual((u, v, s, t), (1, 2, 2, 2))


class Shape(unittest.TestCase):
    """Over all calls."""

    THINGS = [(1, 0, 2, 3), (2, 2, 4, 2)]
    ASKED = [
        ("ready",), ("across", 1, 1), ("back", 1, 1), ("stand",), ("stand1",), ("track", 0, 0), ("track1", 0, 0),
        ("may", 0, 0, 1, 1), ("lies", 0, 0, 1, 1), ("lift", 0, 0, 1, 1), ("cut", 0, 0, 1, 0, -5), ("fits",), ("state",),
        ("track", 1, 2), ("track1", 2, 2), ("cut", 0, 0, 0, 0, 1), ("lift", 101, 0, 0, 0),
    ]

    def test_how_many_then_these(self):
        calls = flat(room(LEANING, self.THINGS))
        laid_out = [1, 0, 1, 0, 1, 1, 1, 2, 1, 3, 1, 0, 1, 1]
        told = [
            ([9, 0, 0], [4, 0, 1, -1, 0]), ([10, 0, 0], [4, 0, 2, -1, 0]), ([11, 0, 0, 1, 1], [1, 1]),
            ([12, 0, 0, 1, 1], [1, 0]), ([13, 0, 0, 1, 1], [3, 0, -1, 3]), ([14, 0, 0, 1, 0, -5], [5, 0, 5, 1, 5, 1]),
            ([15], [1, 1]), ([9, 1, 2], [1, -33]), ([14, 0, 0, 1, -1, 7], [1, -6]),
            ([16], [26, 4, 2, 0, 0, 0, 0, 2, 0, 4, 0, 2, 2, 3, 2, 0, 2, 1, 2, 1, 0, 2, 3, 2, 2, 4, 2]),
        ]
        for call, answer in told:
            self.assertEqual(answers(calls + call), laid_out + answer)
        together = sum([call for call, answer in told], [])
        self.assertEqual(answers(calls + together), laid_out + sum([answer for call, answer in told], []))

    def test_whole_numbers_alone(self):
        row = answers(flat(room(LEANING, self.THINGS) + self.ASKED + [("drop", 1, 0)] + self.ASKED))
        self.assertIs(type(row), list)
        self.assertEqual({type(number) for number in row}, {int})

    def test_what_is_handed_in_is_not_changed_for_a_while_either(self):
        calls = flat(room(LEANING, self.THINGS) + self.ASKED + [("drop", 1, 0), ("state",), ("start",), ("state",)])
        sealed = Sealed(calls)
        self.assertEqual(answers(sealed), answers(calls))
        self.assertEqual(list(sealed), calls)

    def test_what_is_answered_is_not_what_is_kept(self):
        calls = flat(room(LEANING, self.THINGS) + [("state",)])
        first = answers(calls)
        kept = list(first)
        first.clear()
        self.assertEqual(answers(calls), kept)

    def test_nothing_is_changed_by_asking(self):
        told = ask_in(LEANING, self.THINGS, *self.ASKED, *self.ASKED)
        self.assertEqual(told[:len(self.ASKED)], told[len(self.ASKED):])

    def test_nothing_is_kept_from_one_time_to_the_next(self):
        ask_in(LEANING, self.THINGS, *self.ASKED)
        self.assertEqual(ask(*self.ASKED), [[-11]] * len(self.ASKED))
        self.assertEqual(ask(("start",), ("state",)), [[0], [0, 0]])

    def test_two_hundred_calls(self):
        calls = room(LEANING, self.THINGS) + [("cut", 0, 0, 1, 0, -5)] * 193
        self.assertLessEqual(len(flat(calls)), 1200)
        self.assertEqual(ask(*calls)[7:], [[0, 5, 1, 5, 1]] * 193)


class SecondWay(unittest.TestCase):
    """Whatever calls, beside the answers reckoned by solving equations."""

    def some_points(self, choice, most, many):
        def number():
            return choice.choice((-1, 101, LEAST, GREATEST)) if choice.random() < 0.01 else choice.randint(0, most)

        return tuple(number() for k in range(2 * many))

    def some_line(self, choice, most):
        if choice.random() < 0.1:
            return tuple(choice.choice((-n - 1, -n, 0, n, n + 1, GREATEST)) for n in (1000, 1000, 100000))
        return tuple(choice.randint(-most, most) for k in range(3))

    def some_floors(self, choice, most):
        """Four floor points, more often than not such that the floors are known."""
        for turn in range(30):
            calls = [("start",)] + [("floor", *self.some_points(choice, most, 2)) for k in range(4)]
            if reckoned(calls + [("ready",)])[-1] == [1]:
                break
        return calls

    def some_call(self, choice, most, seen):
        names = ("stand", "stand1", "ready", "state", "start") + ("floor", "thing", "drop", "fits") * 3
        name = choice.choice(names + ("across", "back", "track", "track1", "may", "lies", "lift", "cut") * 8)
        if name == "drop":
            return (name, choice.randint(0, 2), choice.randint(0, 5))
        if name == "cut":
            return (name, *self.some_points(choice, most, 1), *self.some_line(choice, most))
        if POINTS.get(name) == 2 and choice.random() < 0.2:
            return (name, *choice.choice(seen))
        return (name, *self.some_points(choice, most, POINTS.get(name, 0)))

    def some_calls(self, choice, most, length):
        calls = [("ready",)] if choice.random() < 0.1 else []
        calls += self.some_floors(choice, most)
        calls += [("thing", *self.some_points(choice, most, 2)) for k in range(choice.choice((1, 2, 2, 2, 2, 3)))]
        seen = [call[1:] for call in calls if call[0] in ("floor", "thing")]
        return calls + [self.some_call(choice, most, seen) for k in range(length)]

    def test_whatever_calls(self):
        choice = random.Random(1)
        firsts = {}
        for turn in range(800):
            calls = self.some_calls(choice, choice.choice((2, 4, 10, 100)), 40)
            told = ask(*calls)
            self.assertEqual(told, reckoned(calls))
            for call, answer in zip(calls, told):
                firsts[(call[0], answer[0])] = True
        for name in FIRSTS:
            for first in FIRSTS[name]:
                self.assertIn((name, first), firsts)


if __name__ == "__main__":
    unittest.main()
