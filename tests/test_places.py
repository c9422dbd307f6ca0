"""across, back, lies, stand, stand1: where points are taken, and where the first picture was taken from."""

import doctest
import unittest
from fractions import Fraction
from math import gcd
from pathlib import Path

from roomtwice.pictures import answers
from tests.helper import GREATEST, LEANING, LEAST, STILL, ask, ask_in, told_as, turned, whole

CROOKED = [(3, 7, 88, 12), (95, 14, 71, 93), (64, 99, 5, 60), (11, 42, 40, 2)]


class Told(unittest.TestCase):
    def test_the_examples_of_the_readme(self):
        readme = Path(__file__).parent.parent / "README.md"
        told = doctest.testfile(str(readme), module_relative=False, globs={"answers": answers})
        self.assertEqual((told.failed, told.attempted), (0, 2))


class Refused(unittest.TestCase):
    def test_outside(self):
        for name in ("across", "back"):
            for number in (-1, 101, -100, 1000, LEAST, GREATEST):
                for point in ((number, 50), (50, number), (number, number)):
                    with self.subTest((name, point)):
                        self.assertEqual(ask_in(STILL, [], (name, *point)), [[-22]])

    def test_outside_is_named_before_unknown(self):
        for name in ("across", "back"):
            for number in (-1, 101, LEAST, GREATEST):
                for point in ((number, 50), (50, number)):
                    self.assertEqual(ask(("start",), (name, *point))[1], [-22])

    def test_the_edges_are_taken(self):
        for name in ("across", "back"):
            for point in ((0, 0), (0, 100), (100, 0), (100, 100)):
                self.assertEqual(ask_in(STILL, [], (name, *point)), [whole(*point)])

    def test_unknown(self):
        for name in ("across", "back"):
            for point in ((0, 0), (0, 100), (100, 0), (37, 41)):
                self.assertEqual(ask_in(STILL[:3], [], (name, *point)), [[-16]])

    def test_stand_unknown(self):
        for name in ("stand", "stand1"):
            self.assertEqual(ask(("start",), (name,))[1], [-16])
            self.assertEqual(ask_in(STILL, [], (name,)), [[-16]])
            self.assertEqual(ask_in(STILL, [(1, 1, 3, 5)], (name,)), [[-16]])
            self.assertEqual(ask_in(STILL[:3], [(1, 1, 3, 5), (2, 5, 0, 0)], (name,)), [[-16]])

    def test_things_are_not_asked_for(self):
        for things in ([], [(1, 0, 2, 0)], [(1, 0, 2, 3)] * 2):
            told = ask_in(LEANING, things, ("across", 1, 1), ("back", 2, 2))
            self.assertEqual(told, [[0, 2, 1, 4, 3], whole(1, 2)])

    def test_nothing_is_changed_by_asking(self):
        things = [(1, 0, 2, 3), (2, 2, 4, 2)]
        calls = [("across", 1, 1), ("back", 1, 1), ("stand",), ("stand1",), ("ready",)]
        told = ask_in(LEANING, things, *calls, *calls, ("drop", 0, 0), ("drop", 1, 0))
        self.assertEqual(told[:5], told[5:10])
        self.assertEqual(told[10:], [[3], [1]])


class Taken(unittest.TestCase):
    def test_across(self):
        self.assertEqual(ask_in(LEANING, [], ("across", 1, 1)), [[0, 2, 1, 4, 3]])
        for u in (0, 1, 2, 3, 17, 50, 99, 100):
            for v in (0, 1, 2, 3, 5, 6, 44, 100):
                place = told_as(Fraction(4 * u + 2 * v, 2 + v), Fraction(4 * v, 2 + v))
                self.assertEqual(ask_in(LEANING, [], ("across", u, v)), [place])
                self.assertEqual(ask_in(turned(LEANING), [], ("back", u, v)), [place])

    def test_back(self):
        for s in (0, 1, 2, 3, 17, 50, 99, 100):
            for t in (0, 1, 2, 3, 5, 6, 44, 100):
                place = told_as(Fraction(2 * s - t, 4 - t), Fraction(2 * t, 4 - t))
                self.assertEqual(ask_in(LEANING, [], ("back", s, t)), [place])
                self.assertEqual(ask_in(turned(LEANING), [], ("across", s, t)), [place])

    def test_below_0(self):
        told = ask_in(LEANING, [], ("back", 0, 1), ("back", 5, 6), ("back", 0, 7), ("back", 9, 7))
        self.assertEqual(told, [[0, -1, 3, 2, 3], [0, -2, 1, -6, 1], [0, 7, 3, -14, 3], [0, -11, 3, -14, 3]])

    def test_0_is_told_as_0_and_1(self):
        told = ask_in(LEANING, [], ("back", 0, 0), ("back", 1, 2), ("back", 3, 6), ("back", 17, 0))
        self.assertEqual(told, [[0, 0, 1, 0, 1], [0, 0, 1, 2, 1], [0, 0, 1, -6, 1], [0, 17, 2, 0, 1]])

    def test_beyond_all(self):
        for s in (0, 1, 2, 50, 100):
            with self.subTest(s):
                self.assertEqual(ask_in(LEANING, [], ("back", s, 4)), [[-6]])
                self.assertEqual(ask_in(turned(LEANING), [], ("across", s, 4)), [[-6]])
                self.assertEqual(len(ask_in(LEANING, [], ("back", s, 3))[0]), 5)
                self.assertEqual(len(ask_in(LEANING, [], ("across", s, 4))[0]), 5)

    def test_the_first_four_are_taken_to_where_they_are_seen(self):
        for floors in (LEANING, turned(LEANING), STILL, CROOKED, CROOKED[::-1], CROOKED + [(1, 2, 3, 4)]):
            for u, v, s, t in floors[:4]:
                told = ask_in(floors, [], ("across", u, v), ("back", s, t))
                self.assertEqual(told, [whole(s, t), whole(u, v)])

    def test_a_fifth_that_does_not_fit_is_not_asked(self):
        told = ask_in(LEANING + [(1, 1, 90, 90)], [], ("across", 1, 1), ("back", 90, 90))
        self.assertEqual(told[0], [0, 2, 1, 4, 3])
        self.assertNotEqual(told[1], whole(1, 1))

    def test_in_whatever_order_the_four_stand(self):
        asked = [("across", 5, 9), ("back", 30, 2)]
        told = ask_in(CROOKED, [], *asked)
        for turn in range(4):
            self.assertEqual(ask_in(CROOKED[turn:] + CROOKED[:turn], [], *asked), told)

    def test_there_and_back(self):
        found = 0
        for floors in (LEANING, turned(LEANING), [(0, 0, 0, 0), (10, 0, 20, 0), (20, 20, 30, 30), (0, 10, 0, 20)]):
            for u in range(0, 101, 5):
                for v in range(0, 21, 2):
                    for there, home in (("across", "back"), ("back", "across")):
                        told = ask_in(floors, [], (there, u, v))[0]
                        on_the_picture = told[2:3] + told[4:] == [1, 1] and 0 <= told[1] <= 100 and 0 <= told[3] <= 100
                        if on_the_picture:
                            found += 1
                            self.assertEqual(ask_in(floors, [], (home, told[1], told[3])), [whole(u, v)])
        self.assertGreater(found, 100)

    def test_lowest_terms(self):
        for floors in (LEANING, CROOKED):
            for u in range(0, 101, 9):
                for v in range(0, 101, 7):
                    for told in ask_in(floors, [], ("across", u, v), ("back", u, v)):
                        if told != [-6]:
                            self.assertEqual((told[0], gcd(told[1], told[2]), gcd(told[3], told[4])), (0, 1, 1))
                            self.assertGreaterEqual(min(told[2], told[4]), 1)


class Lies(unittest.TestCase):
    def test_on_the_floor(self):
        for seen in LEANING + [(1, 0, 2, 0), (5, 2, 6, 2), (3, 6, 3, 3), (1, 2, 2, 2)]:
            with self.subTest(seen):
                self.assertEqual(ask_in(LEANING, [], ("lies", *seen)), [[1]])
                self.assertEqual(ask_in(turned(LEANING), [], ("lies", *turned([seen])[0])), [[1]])

    def test_off_the_floor(self):
        off = [(1, 0, 2, 1), (1, 0, 3, 0), (0, 0, 1, 0), (0, 0, 0, 1), (0, 0, 1, 1), (5, 2, 5, 2), (3, 6, 100, 3)]
        for seen in off:
            with self.subTest(seen):
                self.assertEqual(ask_in(LEANING, [], ("lies", *seen)), [[0]])

    def test_taken_to_between_whole_numbers(self):
        for s, t in ((2, 1), (2, 2), (6, 4), (1, 1)):
            self.assertEqual(ask_in(LEANING, [], ("lies", 1, 1, s, t)), [[0]])

    def test_taken_to_beyond_all(self):
        # Across takes (2, 4) to beyond all, as 0, 8, 0.
        for s, t in ((0, 0), (0, 8), (0, 1), (0, 100), (2, 4)):
            self.assertEqual(ask_in(turned(LEANING), [], ("across", 2, 4), ("lies", 2, 4, s, t)), [[-6], [0]])

    def test_beyond_the_four(self):
        self.assertEqual(ask_in(STILL, [], ("lies", 100, 100, 100, 100), ("lies", 0, 100, 0, 100)), [[1], [1]])
        self.assertEqual(ask_in(STILL, [], ("lies", 100, 100, 99, 100), ("lies", 0, 100, 100, 0)), [[0], [0]])

    def test_a_fifth_floor_point_that_does_not_fit(self):
        self.assertEqual(ask_in(LEANING + [(1, 0, 9, 9)], [], ("lies", 1, 0, 9, 9), ("lies", 1, 0, 2, 0)), [[0], [1]])

    def test_a_thing_that_is_on_the_floor(self):
        things = [(1, 0, 2, 0), (1, 0, 2, 3)]
        self.assertEqual(ask_in(LEANING, things, ("lies", *things[0]), ("lies", *things[1])), [[1], [0]])

    def test_outside(self):
        for floors in (STILL, STILL[:3], []):
            for place in range(4):
                for number in (-1, 101, -100, 1000, LEAST, GREATEST):
                    seen = [50] * 4
                    seen[place] = number
                    with self.subTest((floors, seen)):
                        self.assertEqual(ask_in(floors, [], ("lies", *seen)), [[-22]])

    def test_unknown(self):
        for floors in ([], STILL[:3], [STILL[0]] * 4):
            self.assertEqual(ask_in(floors, [(1, 1, 3, 5), (2, 5, 0, 0)], ("lies", 0, 0, 0, 0)), [[-16]])


class Stand(unittest.TestCase):
    def assert_stands(self, floors, things, stand, stand1):
        self.assertEqual(ask_in(floors, things, ("stand",), ("stand1",)), [stand, stand1])
        swapped = [things[1], things[0]] + things[2:]
        self.assertEqual(ask_in(floors, swapped, ("stand",), ("stand1",)), [stand, stand1])

    def test_where_two_lines_meet(self):
        self.assert_stands(LEANING, [(1, 0, 2, 3), (2, 2, 4, 2)], whole(2, 2), whole(1, 2))
        self.assert_stands(STILL, [(20, 20, 30, 30), (20, 0, 20, 5)], whole(20, 20), whole(20, 20))

    def test_a_fraction(self):
        # The line from (0, 0) to (3, 1), and the one from (1, 0) to (0, 1).
        place = [0, 3, 4, 1, 4]
        self.assert_stands(STILL, [(0, 0, 3, 1), (1, 0, 0, 1)], place, place)
        # The line from (0, 0) to (3, 1), and the one from (2, 0) to (1, 1).
        self.assert_stands(LEANING, [(0, 0, 3, 1), (1, 0, 1, 1)], [0, 3, 2, 1, 2], [0, 5, 7, 2, 7])

    def test_below_0(self):
        # The line from (0, 1) to (1, 2), and the one from (0, 2) to (1, 4).
        place = whole(-1, 0)
        self.assert_stands(STILL, [(0, 1, 1, 2), (0, 2, 1, 4)], place, place)

    def test_beyond_all_in_the_second_picture_alone(self):
        self.assert_stands(LEANING, [(1, 0, 2, 3), (2, 2, 3, 5)], [-6], whole(1, -2))

    def test_beyond_all_in_the_first_picture_alone(self):
        self.assert_stands(LEANING, [(1, 0, 2, 3), (2, 2, 2, 4)], whole(2, 4), [-6])

    def test_beyond_all_in_both(self):
        self.assert_stands(LEANING, [(1, 0, 5, 0), (2, 2, 9, 2)], [-6], [-6])
        self.assert_stands(STILL, [(1, 1, 3, 5), (2, 1, 4, 5)], [-6], [-6])

    def test_a_third_thing_is_not_asked(self):
        things = [(1, 0, 2, 3), (2, 2, 4, 2), (9, 9, 1, 50)]
        self.assert_stands(LEANING, things, whole(2, 2), whole(1, 2))

    def test_a_thing_seen_at_the_stand(self):
        self.assert_stands(LEANING, [(1, 0, 2, 2), (2, 2, 4, 2)], whole(2, 2), whole(1, 2))

    def test_a_thing_taken_to_the_stand(self):
        self.assert_stands(LEANING, [(1, 2, 2, 9), (2, 2, 4, 2)], whole(2, 2), whole(1, 2))


if __name__ == "__main__":
    unittest.main()
