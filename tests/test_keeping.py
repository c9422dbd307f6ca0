"""start, floor, thing, drop, state, and the shape of the answers."""

import unittest

from roomtwice.pictures import answers
from tests.helper import GREATEST, LEANING, LEAST, NUMBERS, STILL, ask, ask_in, flat, room

ENDLESS = 4294967295

SIZES = {
    "start": 0, "floor": 4, "thing": 4, "drop": 2, "ready": 0, "across": 2, "back": 2, "stand": 0, "stand1": 0,
    "track": 2, "track1": 2, "may": 4, "lies": 4, "lift": 4, "cut": 5, "fits": 0, "state": 0,
}


def some_call(name, number=1):
    return (name,) + (number,) * SIZES[name]


class Start(unittest.TestCase):
    def test_before_a_start_each_call_is_refused(self):
        for name in NUMBERS:
            if name != "start":
                with self.subTest(name):
                    self.assertEqual(ask(some_call(name)), [[-11]])

    def test_before_a_start_all_calls_in_a_row_are_refused(self):
        names = [name for name in NUMBERS if name != "start"]
        calls = [some_call(name) for name in names] + [some_call(name) for name in reversed(names)]
        self.assertEqual(ask(*calls), [[-11]] * 32)

    def test_not_started_is_named_before_what_else_would_do(self):
        calls = [("floor", -1, 0, 0, 0), ("thing", 0, 101, 0, 0), ("drop", 2, 0), ("across", LEAST, 0), ("back", 0, 200)]
        self.assertEqual(ask(*calls), [[-11]] * 5)

    def test_what_is_refused_before_a_start_is_not_kept(self):
        calls = [("floor", *f) for f in STILL] + [("thing", 1, 1, 2, 2)]
        told = ask(*calls, ("start",), ("ready",), ("drop", 0, 0), ("drop", 1, 0))
        self.assertEqual(told, [[-11]] * 5 + [[0], [0], [-2], [-2]])

    def test_start_leaves_nothing_there(self):
        self.assertEqual(
            ask(("start",), ("ready",), ("drop", 0, 0), ("drop", 1, 0), ("across", 1, 1), ("stand",)),
            [[0], [0], [-2], [-2], [-16], [-16]],
        )

    def test_a_second_start_leaves_nothing_there(self):
        things = [(1, 0, 2, 3), (2, 2, 4, 2)]
        told = ask_in(
            LEANING, things,
            ("ready",), ("start",), ("ready",), ("drop", 0, 0), ("drop", 1, 0), ("across", 1, 1), ("stand1",),
            ("thing", 1, 2, 3, 4), ("floor", 1, 2, 3, 4),
        )
        self.assertEqual(told, [[2], [0], [0], [-2], [-2], [-16], [-16], [0], [0]])

    def test_start_upon_start(self):
        self.assertEqual(ask(("start",), ("start",), ("start",)), [[0], [0], [0]])


class OneMore(unittest.TestCase):
    """What holds of floor and of thing alike."""

    def test_numbers_in_order_and_full_at_the_seventh(self):
        for name in ("floor", "thing"):
            with self.subTest(name):
                calls = [(name, k, k, k, k) for k in range(8)]
                self.assertEqual(ask(("start",), *calls), [[0], [0], [1], [2], [3], [4], [5], [-28], [-28]])

    def test_the_kinds_are_counted_apart(self):
        calls = [(name, 7, 7, 7, 7) for name in ("floor", "thing") * 7]
        numbers = [[k] for k in range(6) for name in ("floor", "thing")]
        self.assertEqual(ask(("start",), *calls)[1:], numbers + [[-28], [-28]])

    def test_the_edges_are_taken(self):
        for name in ("floor", "thing"):
            for place in range(4):
                for number in (0, 100):
                    with self.subTest((name, place, number)):
                        numbers = [50] * 4
                        numbers[place] = number
                        self.assertEqual(ask(("start",), (name, *numbers))[1], [0])
            self.assertEqual(ask(("start",), (name, 0, 0, 0, 0), (name, 100, 100, 100, 100))[1:], [[0], [1]])

    def test_outside_the_edges_is_refused_and_not_kept(self):
        for name in ("floor", "thing"):
            for place in range(4):
                for number in (-1, 101, -100, 1000, LEAST, GREATEST):
                    with self.subTest((name, place, number)):
                        numbers = [50] * 4
                        numbers[place] = number
                        self.assertEqual(ask(("start",), (name, *numbers), (name, 1, 2, 3, 4))[1:], [[-22], [0]])

    def test_outside_is_named_before_full(self):
        for name in ("floor", "thing"):
            six = [(name, 1, 1, 1, 1)] * 6
            for place in range(4):
                for number in (-1, 101, LEAST, GREATEST):
                    with self.subTest((name, place, number)):
                        numbers = [50] * 4
                        numbers[place] = number
                        self.assertEqual(ask(("start",), *six, (name, *numbers))[-1], [-22])

    def test_the_seventh_is_not_kept(self):
        for k, name in enumerate(("floor", "thing")):
            seven = [(name, 1, 1, 1, 1)] * 7
            self.assertEqual(ask(("start",), *seven, ("drop", k, 6), ("drop", k, 5))[-2:], [[-2], [5]])

    def test_there_is_room_again_behind_a_drop(self):
        for k, name in enumerate(("floor", "thing")):
            six = [(name, 1, 1, 1, 1)] * 6
            self.assertEqual(
                ask(("start",), *six, ("drop", k, 2), (name, 1, 1, 1, 1), (name, 1, 1, 1, 1))[-3:],
                [[5], [5], [-28]],
            )


class Drop(unittest.TestCase):
    def test_a_kind_that_is_none(self):
        for k in (2, 3, 100, GREATEST, GREATEST + 1, ENDLESS):
            for i in (0, 5, ENDLESS):
                with self.subTest((k, i)):
                    self.assertEqual(ask_in(STILL, [(1, 1, 2, 2)], ("drop", k, i)), [[-22]])

    def test_none_such(self):
        for i in (4, 5, 6, 100, GREATEST, GREATEST + 1, ENDLESS):
            with self.subTest(i):
                self.assertEqual(ask_in(STILL, [], ("drop", 0, i), ("drop", 1, 0)), [[-2], [-2]])
                self.assertEqual(ask_in([], STILL, ("drop", 1, i), ("drop", 0, 0)), [[-2], [-2]])

    def test_what_is_refused_drops_nothing(self):
        told = ask_in(STILL, [], ("drop", 2, 0), ("drop", 0, 4), ("drop", 1, 0), ("ready",), ("drop", 0, 3))
        self.assertEqual(told, [[-22], [-2], [-2], [1], [3]])

    def test_how_many_there_are_then_of_that_kind(self):
        things = [(1, 1, 2, 2), (3, 3, 4, 4)]
        told = ask_in(
            STILL, things,
            ("drop", 0, 3), ("drop", 1, 1), ("drop", 0, 0), ("drop", 0, 1), ("drop", 1, 0), ("drop", 1, 0),
            ("drop", 0, 0), ("drop", 0, 0),
        )
        self.assertEqual(told, [[3], [1], [2], [1], [0], [-2], [0], [-2]])

    def test_the_first_four_floor_points_are_others_then(self):
        fifth = (5, 3, 50, 60)
        for i in range(4):
            left = [LEANING[n] for n in range(4) if n != i] + [fifth]
            calls = [("ready",)] + [("across", u, v) for u, v in ((3, 5), (7, 0), (0, 9))]
            with self.subTest(i):
                told = ask_in(LEANING + [fifth], [], ("drop", 0, i), *calls)
                self.assertEqual(told[:2], [[4], [1]])
                self.assertEqual(told[1:], ask_in(left, [], *calls))
                self.assertNotEqual(told[1:], ask_in(LEANING, [], *calls))
                self.assertEqual(ask_in(LEANING + [fifth], [], ("drop", 0, i), ("across", 5, 3))[1], [0, 50, 1, 60, 1])

    def test_a_fifth_comes_up_where_three_were_on_a_line(self):
        floors = [LEANING[0], (1, 0, 2, 0)] + LEANING[1:]
        told = ask_in(floors, [], ("ready",), ("across", 1, 1), ("drop", 0, 1), ("ready",), ("across", 1, 1))
        self.assertEqual(told, [[0], [-16], [4], [1], [0, 2, 1, 4, 3]])

    def test_a_fifth_comes_up_and_three_are_on_a_line(self):
        # In the first picture it is on both diagonals.
        floors = LEANING + [(1, 1, 2, 70)]
        for i in range(4):
            told = ask_in(floors, [], ("ready",), ("drop", 0, i), ("ready",), ("across", 1, 1))
            self.assertEqual(told, [[1], [4], [0], [-16]])

    def test_the_fifth_and_sixth_can_go_without_a_change(self):
        floors = LEANING + [(50, 50, 1, 2), (60, 60, 7, 7)]
        asked = ("across", 1, 1)
        told = ask_in(floors, [], asked, ("drop", 0, 4), asked, ("drop", 0, 4), asked, ("drop", 0, 3), asked)
        place = [0, 2, 1, 4, 3]
        self.assertEqual(told, [place, [5], place, [4], place, [3], [-16]])

    def test_thing_0_gone(self):
        things = [(1, 0, 2, 3), (2, 2, 4, 2), (2, 2, 2, 4)]
        told = ask_in(LEANING, things, ("stand",), ("drop", 1, 0), ("stand",), ("drop", 1, 0), ("stand",), ("ready",))
        self.assertEqual(told, [[0, 2, 1, 2, 1], [2], [0, 3, 1, 2, 1], [1], [-16], [1]])

    def test_thing_1_gone(self):
        things = [(1, 0, 2, 3), (2, 2, 4, 2), (2, 2, 2, 4)]
        told = ask_in(LEANING, things, ("drop", 1, 1), ("stand",), ("drop", 1, 1), ("stand",))
        self.assertEqual(told, [[2], [0, 2, 1, 4, 1], [1], [-16]])

    def test_thing_2_gone(self):
        things = [(1, 0, 2, 3), (2, 2, 4, 2), (2, 2, 2, 4)]
        told = ask_in(LEANING, things, ("drop", 1, 2), ("stand",), ("drop", 1, 2))
        self.assertEqual(told, [[2], [0, 2, 1, 2, 1], [-2]])


class State(unittest.TestCase):
    def test_nothing_is_there(self):
        self.assertEqual(ask(("start",), ("state",)), [[0], [0, 0]])
        self.assertEqual(ask_in(LEANING, [(1, 2, 3, 4)], ("start",), ("state",)), [[0], [0, 0]])

    def test_before_a_start(self):
        self.assertEqual(ask(("state",), ("start",), ("state",)), [[-11], [0], [0, 0]])

    def test_floor_points_first(self):
        told = ask(("start",), ("thing", 1, 2, 3, 4), ("floor", 5, 6, 7, 8), ("thing", 9, 10, 11, 12), ("state",))
        self.assertEqual(told[-1], [1, 2, 5, 6, 7, 8, 1, 2, 3, 4, 9, 10, 11, 12])

    def test_one_kind_alone(self):
        self.assertEqual(ask_in([(1, 2, 3, 4)], [], ("state",)), [[1, 0, 1, 2, 3, 4]])
        self.assertEqual(ask_in([], [(1, 2, 3, 4)], ("state",)), [[0, 1, 1, 2, 3, 4]])

    def test_all_twelve(self):
        floors = [(k, 10 + k, 20 + k, 30 + k) for k in range(6)]
        things = [(100 - k, 90 - k, 80 - k, 70 - k) for k in range(6)]
        numbers = [number for seen in floors + things for number in seen]
        self.assertEqual(ask_in(floors, things, ("state",)), [[6, 6] + numbers])

    def test_it_need_not_be_ready(self):
        self.assertEqual(ask_in([(1, 1, 1, 1)] * 4, [], ("state",)), [[4, 0] + [1] * 16])

    def test_the_edges(self):
        told = ask_in([(0, 100, 0, 100)], [(100, 0, 100, 0)], ("state",))
        self.assertEqual(told, [[1, 1, 0, 100, 0, 100, 100, 0, 100, 0]])

    def test_what_is_refused_is_not_there(self):
        seven = [(k, k, k, k) for k in range(7)]
        numbers = [number for seen in seven[:6] for number in seen]
        self.assertEqual(ask_in(seven, [], ("state",)), [[6, 0] + numbers])
        self.assertEqual(ask_in([], seven, ("state",)), [[0, 6] + numbers])
        self.assertEqual(ask_in([(1, 2, 3, 101)], [(-1, 2, 3, 4)], ("state",)), [[0, 0]])

    def test_those_behind_what_is_gone_have_one_number_less(self):
        three = [(1, 2, 3, 4), (5, 6, 7, 8), (9, 10, 11, 12)]
        for i in range(3):
            left = [number for k in range(3) if k != i for number in three[k]]
            self.assertEqual(ask_in(three, [], ("drop", 0, i), ("state",)), [[2], [2, 0] + left])
            self.assertEqual(ask_in([], three, ("drop", 1, i), ("state",)), [[2], [0, 2] + left])
            self.assertEqual(ask_in(three, three[:1], ("drop", 0, i), ("state",))[1], [2, 1] + left + [1, 2, 3, 4])

    def test_a_new_one_stands_behind(self):
        told = ask_in([(1, 2, 3, 4), (5, 6, 7, 8)], [], ("drop", 0, 0), ("floor", 9, 9, 9, 9), ("state",))
        self.assertEqual(told, [[1], [1], [2, 0, 5, 6, 7, 8, 9, 9, 9, 9]])

    def test_what_is_refused_drops_nothing(self):
        told = ask_in([(1, 2, 3, 4)], [(5, 6, 7, 8)], ("drop", 0, 1), ("drop", 1, 1), ("drop", 2, 0), ("state",))
        self.assertEqual(told, [[-2], [-2], [-22], [1, 1, 1, 2, 3, 4, 5, 6, 7, 8]])


class Shape(unittest.TestCase):
    def test_how_many_then_these(self):
        things = [(1, 0, 2, 3), (2, 2, 4, 2)]
        asked = [("ready",), ("across", 1, 1), ("across", 101, 1), ("back", 5, 6), ("back", 2, 4), ("stand",), ("stand1",)]
        self.assertEqual(
            answers(flat(room(LEANING, things) + asked)),
            [1, 0, 1, 0, 1, 1, 1, 2, 1, 3, 1, 0, 1, 1, 1, 2, 5, 0, 2, 1, 4, 3, 1, -22, 5, 0, -2, 1, -6, 1, 1, -6,
             5, 0, 2, 1, 2, 1, 5, 0, 1, 1, 2, 1],
        )

    def test_refused_before_a_start(self):
        self.assertEqual(answers([4]), [1, -11])
        self.assertEqual(answers([14, 0, 1, 2, 3, 4, 0, 4]), [1, -11, 1, 0, 1, 0])

    def test_whole_numbers_alone(self):
        things = [(1, 0, 2, 3), (2, 2, 4, 2)]
        calls = [("across", 1, 1), ("drop", 1, 0), ("ready",), ("drop", 0, 0), ("ready",), ("across", 1, 1)]
        row = answers(flat(room(LEANING, things) + [("ready",)] + calls))
        self.assertIs(type(row), list)
        self.assertEqual({type(number) for number in row}, {int})

    def test_what_is_handed_in_is_the_same_afterwards(self):
        calls = flat(room(LEANING, [(1, 0, 2, 3), (2, 2, 4, 2)]) + [("drop", 0, 0), ("stand",), ("drop", 1, 1)])
        kept = list(calls)
        answers(calls)
        self.assertEqual(calls, kept)

    def test_the_same_list_twice_is_answered_the_same(self):
        calls = flat([("ready",)] + room(LEANING, [(1, 0, 2, 3), (2, 2, 4, 2)]) + [("stand",), ("drop", 1, 1)])
        first = answers(calls)
        kept = list(first)
        self.assertEqual(answers(calls), kept)
        first.append(5)
        self.assertEqual(answers(calls), kept)

    def test_nothing_is_kept_from_one_time_to_the_next(self):
        ask(*room(LEANING, [(1, 0, 2, 3), (2, 2, 4, 2)]))
        self.assertEqual(ask(("ready",), ("across", 1, 1)), [[-11], [-11]])
        self.assertEqual(ask(("start",), ("ready",), ("floor", 1, 1, 1, 1)), [[0], [0], [0]])

    def test_two_hundred_calls(self):
        calls = [("start",)] + [("floor", 1, 2, 3, 4)] * 199
        told = ask(*calls)
        self.assertEqual(told, [[0], [0], [1], [2], [3], [4], [5]] + [[-28]] * 193)


if __name__ == "__main__":
    unittest.main()
