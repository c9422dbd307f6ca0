"""across, back, stand, stand1: where points are taken, and where the first picture was taken from."""

import doctest
import random
import unittest
from fractions import Fraction
from itertools import product
from math import gcd
from pathlib import Path

from roomtwice.pictures import answers
from tests.helper import LEANING, STILL, ask, ask_in, only, reckoned, turned

LEAST = -2147483648
GREATEST = 2147483647

CROOKED = [(3, 7, 88, 12), (95, 14, 71, 93), (64, 99, 5, 60), (11, 42, 40, 2)]


def told_as(x, y):
    """The answer that tells a place."""
    return [0, x.numerator, x.denominator, y.numerator, y.denominator]


def whole(u, v):
    return [0, u, 1, v, 1]


class Told(unittest.TestCase):
    def test_the_example_of_the_readme(self):
        readme = Path(__file__).parent.parent / "README.md"
        told = doctest.testfile(str(readme), module_relative=False, globs={"answers": answers})
        self.assertEqual((told.failed, told.attempted), (0, 1))


class Refused(unittest.TestCase):
    def test_outside(self):
        for name in ("across", "back"):
            for number in (-1, 101, -100, 1000, LEAST, GREATEST):
                for point in ((number, 50), (50, number), (number, number)):
                    with self.subTest((name, point)):
                        self.assertEqual(ask_in(STILL, [], (name, *point)), [[-22]])

    def test_outside_is_named_before_unknown(self):
        for name in ("across", "back"):
            for number in (-1, 101, LEAST, GREATEST):
                for point in ((number, 50), (50, number)):
                    self.assertEqual(ask(("start",), (name, *point))[1], [-22])

    def test_the_edges_are_taken(self):
        for name in ("across", "back"):
            for point in ((0, 0), (0, 100), (100, 0), (100, 100)):
                self.assertEqual(ask_in(STILL, [], (name, *point)), [whole(*point)])

    def test_unknown(self):
        for name in ("across", "back"):
            for point in ((0, 0), (0, 100), (100, 0), (37, 41)):
                self.assertEqual(ask_in(STILL[:3], [], (name, *point)), [[-16]])

    def test_stand_unknown(self):
        for name in ("stand", "stand1"):
            self.assertEqual(ask(("start",), (name,))[1], [-16])
            self.assertEqual(ask_in(STILL, [], (name,)), [[-16]])
            self.assertEqual(ask_in(STILL, [(1, 1, 3, 5)], (name,)), [[-16]])
            self.assertEqual(ask_in(STILL[:3], [(1, 1, 3, 5), (2, 5, 0, 0)], (name,)), [[-16]])

    def test_things_are_not_asked_for(self):
        for things in ([], [(1, 0, 2, 0)], [(1, 0, 2, 3)] * 2):
            told = ask_in(LEANING, things, ("across", 1, 1), ("back", 2, 2))
            self.assertEqual(told, [[0, 2, 1, 4, 3], whole(1, 2)])

    def test_nothing_is_changed_by_asking(self):
        things = [(1, 0, 2, 3), (2, 2, 4, 2)]
        calls = [("across", 1, 1), ("back", 1, 1), ("stand",), ("stand1",), ("ready",)]
        told = ask_in(LEANING, things, *calls, *calls, ("drop", 0, 0), ("drop", 1, 0))
        self.assertEqual(told[:5], told[5:10])
        self.assertEqual(told[10:], [[3], [1]])


class Taken(unittest.TestCase):
    def test_across(self):
        self.assertEqual(ask_in(LEANING, [], ("across", 1, 1)), [[0, 2, 1, 4, 3]])
        for u in (0, 1, 2, 3, 17, 50, 99, 100):
            for v in (0, 1, 2, 3, 5, 6, 44, 100):
                place = told_as(Fraction(4 * u + 2 * v, 2 + v), Fraction(4 * v, 2 + v))
                self.assertEqual(ask_in(LEANING, [], ("across", u, v)), [place])
                self.assertEqual(ask_in(turned(LEANING), [], ("back", u, v)), [place])

    def test_back(self):
        for s in (0, 1, 2, 3, 17, 50, 99, 100):
            for t in (0, 1, 2, 3, 5, 6, 44, 100):
                place = told_as(Fraction(2 * s - t, 4 - t), Fraction(2 * t, 4 - t))
                self.assertEqual(ask_in(LEANING, [], ("back", s, t)), [place])
                self.assertEqual(ask_in(turned(LEANING), [], ("across", s, t)), [place])

    def test_below_0(self):
        told = ask_in(LEANING, [], ("back", 0, 1), ("back", 5, 6), ("back", 0, 7), ("back", 9, 7))
        self.assertEqual(told, [[0, -1, 3, 2, 3], [0, -2, 1, -6, 1], [0, 7, 3, -14, 3], [0, -11, 3, -14, 3]])

    def test_0_is_told_as_0_and_1(self):
        told = ask_in(LEANING, [], ("back", 0, 0), ("back", 1, 2), ("back", 3, 6), ("back", 17, 0))
        self.assertEqual(told, [[0, 0, 1, 0, 1], [0, 0, 1, 2, 1], [0, 0, 1, -6, 1], [0, 17, 2, 0, 1]])

    def test_beyond_all(self):
        for s in (0, 1, 2, 50, 100):
            with self.subTest(s):
                self.assertEqual(ask_in(LEANING, [], ("back", s, 4)), [[-6]])
                self.assertEqual(ask_in(turned(LEANING), [], ("across", s, 4)), [[-6]])
                self.assertEqual(len(ask_in(LEANING, [], ("back", s, 3))[0]), 5)
                self.assertEqual(len(ask_in(LEANING, [], ("across", s, 4))[0]), 5)

    def test_the_first_four_are_taken_to_where_they_are_seen(self):
        for floors in (LEANING, turned(LEANING), STILL, CROOKED, CROOKED[::-1], CROOKED + [(1, 2, 3, 4)]):
            for u, v, s, t in floors[:4]:
                told = ask_in(floors, [], ("across", u, v), ("back", s, t))
                self.assertEqual(told, [whole(s, t), whole(u, v)])

    def test_a_fifth_that_does_not_fit_is_not_asked(self):
        told = ask_in(LEANING + [(1, 1, 90, 90)], [], ("across", 1, 1), ("back", 90, 90))
        self.assertEqual(told[0], [0, 2, 1, 4, 3])
        self.assertNotEqual(told[1], whole(1, 1))

    def test_in_whatever_order_the_four_stand(self):
        asked = [("across", 5, 9), ("back", 30, 2)]
        told = ask_in(CROOKED, [], *asked)
        for turn in range(4):
            self.assertEqual(ask_in(CROOKED[turn:] + CROOKED[:turn], [], *asked), told)

    def test_there_and_back(self):
        found = 0
        for floors in (LEANING, turned(LEANING), [(0, 0, 0, 0), (10, 0, 20, 0), (20, 20, 30, 30), (0, 10, 0, 20)]):
            for u in range(0, 101, 5):
                for v in range(0, 21, 2):
                    for there, home in (("across", "back"), ("back", "across")):
                        told = ask_in(floors, [], (there, u, v))[0]
                        on_the_picture = told[2:3] + told[4:] == [1, 1] and 0 <= told[1] <= 100 and 0 <= told[3] <= 100
                        if on_the_picture:
                            found += 1
                            self.assertEqual(ask_in(floors, [], (home, told[1], told[3])), [whole(u, v)])
        self.assertGreater(found, 100)

    def test_lowest_terms(self):
        for floors in (LEANING, CROOKED):
            for u in range(0, 101, 9):
                for v in range(0, 101, 7):
                    for told in ask_in(floors, [], ("across", u, v), ("back", u, v)):
                        if told != [-6]:
                            self.assertEqual((told[0], gcd(told[1], told[2]), gcd(told[3], told[4])), (0, 1, 1))
                            self.assertGreaterEqual(min(told[2], told[4]), 1)


class Stand(unittest.TestCase):
    def assert_stands(self, floors, things, stand, stand1):
        self.assertEqual(ask_in(floors, things, ("stand",), ("stand1",)), [stand, stand1])
        swapped = [things[1], things[0]] + things[2:]
        self.assertEqual(ask_in(floors, swapped, ("stand",), ("stand1",)), [stand, stand1])

    def test_where_two_lines_meet(self):
        self.assert_stands(LEANING, [(1, 0, 2, 3), (2, 2, 4, 2)], whole(2, 2), whole(1, 2))
        self.assert_stands(STILL, [(20, 20, 30, 30), (20, 0, 20, 5)], whole(20, 20), whole(20, 20))

    def test_a_fraction(self):
        # The line from (0, 0) to (3, 1), and the one from (1, 0) to (0, 1).
        place = [0, 3, 4, 1, 4]
        self.assert_stands(STILL, [(0, 0, 3, 1), (1, 0, 0, 1)], place, place)
        # The line from (0, 0) to (3, 1), and the one from (2, 0) to (1, 1).
        self.assert_stands(LEANING, [(0, 0, 3, 1), (1, 0, 1, 1)], [0, 3, 2, 1, 2], [0, 5, 7, 2, 7])

    def test_below_0(self):
        # The line from (0, 1) to (1, 2), and the one from (0, 2) to (1, 4).
        place = whole(-1, 0)
        self.assert_stands(STILL, [(0, 1, 1, 2), (0, 2, 1, 4)], place, place)

    def test_beyond_all_in_the_second_picture_alone(self):
        self.assert_stands(LEANING, [(1, 0, 2, 3), (2, 2, 3, 5)], [-6], whole(1, -2))

    def test_beyond_all_in_the_first_picture_alone(self):
        self.assert_stands(LEANING, [(1, 0, 2, 3), (2, 2, 2, 4)], whole(2, 4), [-6])

    def test_beyond_all_in_both(self):
        self.assert_stands(LEANING, [(1, 0, 5, 0), (2, 2, 9, 2)], [-6], [-6])
        self.assert_stands(STILL, [(1, 1, 3, 5), (2, 1, 4, 5)], [-6], [-6])

    def test_a_third_thing_is_not_asked(self):
        things = [(1, 0, 2, 3), (2, 2, 4, 2), (9, 9, 1, 50)]
        self.assert_stands(LEANING, things, whole(2, 2), whole(1, 2))

    def test_a_thing_seen_at_the_stand(self):
        self.assert_stands(LEANING, [(1, 0, 2, 2), (2, 2, 4, 2)], whole(2, 2), whole(1, 2))

    def test_a_thing_taken_to_the_stand(self):
        self.assert_stands(LEANING, [(1, 2, 2, 9), (2, 2, 4, 2)], whole(2, 2), whole(1, 2))


class InTruth(unittest.TestCase):
    """Rooms that are known, and two pictures taken of them."""

    # Each row: so many times x, y, z (up from the floor) and 1; the third row is what is divided by.
    CAMERAS = [
        (((4, 0, 2, 6), (2, 4, -3, 4), (0, 0, 0, 2)), ((12, 6, 0, 66), (-6, 12, -9, 24), (0, 1, -1, 1))),
        (((6, 4, -2, 0), (2, 6, -7, 24), (1, 0, -1, 1)), ((8, 4, -1, 32), (6, 8, 0, 24), (0, 0, 0, 1))),
        (((12, 2, -7, 60), (6, 12, 0, 0), (1, 0, 0, 1)), ((12, 6, -1, 60), (-6, 12, -5, 24), (1, 0, 0, 1))),
        (((6, 6, -2, 15), (4, 6, 2, 9), (0, 1, -1, 1)), ((8, 4, 4, 36), (4, 8, -4, 8), (0, 1, -1, 2))),
        (((12, 0, -2, 12), (0, 12, 7, 12), (0, 0, -1, 6)), ((6, 6, 3, 18), (-6, 6, 2, 33), (1, 0, -1, 5))),
    ]

    def shown(self, camera, point):
        return [sum(a * b for a, b in zip(row, point)) for row in camera]

    def on_the_picture(self, camera, point):
        x, y, w = self.shown(camera, point)
        if w == 0 or x % w or y % w or not (0 <= x // w <= 100 and 0 <= y // w <= 100):
            return None
        return (x // w, y // w)

    def seen_in_both(self, cameras, heights):
        """Of the whole and half steps of the room all that both pictures show at whole numbers."""
        found = {}
        for parts in (1, 2):
            for x, y, z in product(range(13 * parts), range(13 * parts), heights):
                places = [self.on_the_picture(camera, (x, y, z * parts, parts)) for camera in cameras]
                if None not in places:
                    found[places[0] + places[1]] = True
        return list(found)

    def four_corners(self, floors, choice):
        while True:
            four = choice.sample(floors, 4)
            if ask_in(four, [], ("ready",)) == [[1]]:
                return four

    def place(self, point):
        if point[2] == 0:
            return [-6]
        return told_as(Fraction(point[0]) / point[2], Fraction(point[1]) / point[2])

    def test_the_floor_lies_where_it_is_told_and_the_stand_is_where_the_other_was_taken_from(self):
        choice = random.Random(7)
        for cameras in self.CAMERAS:
            floors = self.seen_in_both(cameras, (0,))
            things = self.seen_in_both(cameras, (1, 2, 3))
            stand = self.place(self.shown(cameras[1], only(cameras[0], 4)))
            stand1 = self.place(self.shown(cameras[0], only(cameras[1], 4)))
            ready = 0
            for turn in range(20):
                four = self.four_corners(floors, choice)
                for u, v, s, t in floors:
                    self.assertEqual(ask_in(four, [], ("across", u, v), ("back", s, t)), [whole(s, t), whole(u, v)])
                two = choice.sample(things, 2)
                told = ask_in(four, two, ("ready",), ("stand",), ("stand1",))
                if told[0] == [2]:
                    ready += 1
                    self.assertEqual(told[1:], [stand, stand1])
            self.assertGreater(ready, 5)


class SecondWay(unittest.TestCase):
    """Whatever calls, beside the answers reckoned by solving equations."""

    def some_points(self, choice, most, many):
        def number():
            return choice.choice((-1, 101, LEAST, GREATEST)) if choice.random() < 0.01 else choice.randint(0, most)

        return tuple(number() for k in range(many))

    def some_floors(self, choice, most):
        """Four floor points, more often than not such that the floors are known."""
        for turn in range(30):
            calls = [("start",)] + [("floor", *self.some_points(choice, most, 4)) for k in range(4)]
            if reckoned(calls + [("ready",)])[-1] == [1]:
                break
        return calls

    def some_calls(self, choice, most, length):
        calls = [("ready",)] if choice.random() < 0.1 else []
        calls += self.some_floors(choice, most)
        calls += [("thing", *self.some_points(choice, most, 4)) for k in range(choice.randint(1, 3))]
        names = ("across", "back", "stand", "stand1", "ready") * 8 + ("floor", "thing", "drop") * 3 + ("start",)
        for k in range(length):
            name = choice.choice(names)
            many = {"floor": 4, "thing": 4, "across": 2, "back": 2}.get(name, 0)
            if name == "drop":
                calls.append((name, choice.randint(0, 2), choice.randint(0, 5)))
            else:
                calls.append((name, *self.some_points(choice, most, many)))
        return calls

    def test_whatever_calls(self):
        choice = random.Random(1)
        firsts = {}
        for turn in range(400):
            calls = self.some_calls(choice, choice.choice((2, 4, 10, 100)), 20)
            told = ask(*calls)
            self.assertEqual(told, reckoned(calls))
            for call, answer in zip(calls, told):
                firsts[(call[0], answer[0])] = True
        for name in ("across", "back", "stand", "stand1"):
            for first in (0, -6, -16):
                self.assertIn((name, first), firsts)
        for first in (0, 1, 2):
            self.assertIn(("ready", first), firsts)


if __name__ == "__main__":
    unittest.main()
