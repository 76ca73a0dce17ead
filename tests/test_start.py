import unittest

from tests.lines import (
    TOP, ask, ask_behind, date, did, flew, flights, go, in_plane, left, limits, of, part, put, start, start_with, take)

EARLY = date(1900, 1, 1)
LATE = date(2026, 11, 19)


class HowManyKinds(unittest.TestCase):
    def test_1_to_16_are_taken(self):
        for how_many in range(1, 17):
            with self.subTest(how_many=how_many):
                self.assertEqual(ask(start(how_many)), [0])

    def test_none_and_more_than_16_are_refused(self):
        for how_many in (0, 17, 18):
            with self.subTest(how_many=how_many):
                self.assertEqual(ask(start(how_many)), [-22])

    def test_limits_may_be_any_number(self):
        self.assertEqual(ask(start_with([TOP] * 12), start_with([0] * 12)), [0, 0])
        self.assertEqual(ask(start_with([TOP] * 192), part(15, EARLY)), [0, 0])


class WhatABookBeginsWith(unittest.TestCase):
    def test_limits_are_those_of_each_kind(self):
        numbers = list(range(100, 124))
        begun = [start_with(numbers), part(0, LATE), part(1, LATE), put(0, 0), put(1, 1)]
        self.assertEqual(ask_behind(begun, left(0, LATE), left(1, LATE)), [[1, 100, 104, 108], [1, 112, 116, 120]])
        for place, number in enumerate(numbers):
            alone = [number if place == other else 0 for other in range(24)]
            expected = [[1, TOP, TOP, TOP], [1, TOP, TOP, TOP]]
            expected[place // 12][1 + place % 12 // 4] = number
            with self.subTest(place=place):
                begun = [start_with(alone), part(0, LATE), part(1, LATE), put(0, 0), put(1, 1)]
                self.assertEqual(ask_behind(begun, left(0, LATE), left(1, LATE)), expected)

    def test_no_part(self):
        self.assertEqual(ask(start(1), take(0), put(0, 0), did(0, 0, LATE)), [0, -2, -2, -2])

    def test_no_date_told(self):
        self.assertEqual(ask(start(1), part(0, EARLY)), [0, 0])

    def test_no_flight_flown_in_any_aeroplane(self):
        for plane in range(16):
            with self.subTest(plane=plane):
                self.assertEqual(ask(start(1), part(0, EARLY), put(0, plane, 1), put(0, plane, 0)), [0, 0, -71, 0])


class StartingAgain(unittest.TestCase):
    def test_parts_are_gone(self):
        self.assertEqual(
            ask(start(1), part(0, EARLY), part(0, EARLY), put(1, 3), start(1), put(1, 3), take(0), part(0, EARLY),
                put(0, 3)),
            [0, 0, 1, 0, 0, -2, -2, 0, 0])

    def test_told_date_is_gone(self):
        self.assertEqual(
            ask(start(1), part(0, LATE), part(0, EARLY), start(1), part(0, EARLY)),
            [0, 0, -13, 0, 0])
        self.assertEqual(
            ask(start(1), part(0, EARLY), did(0, 0, LATE), start(1), part(0, EARLY)),
            [0, 0, 0, 0, 0])

    def test_kinds_are_the_new_ones(self):
        self.assertEqual(
            ask(start(3), part(2, EARLY), start(2), part(2, EARLY), part(1, EARLY), start(16), part(15, EARLY)),
            [0, 0, 0, -22, 0, 0, 0])

    def test_aeroplanes_are_empty(self):
        filling = [part(0, EARLY) for number in range(32)] + [put(number, 0) for number in range(32)]
        told = ask(start(1), *filling, start(1), *filling)
        self.assertEqual(told, ([0] + list(range(32)) + [0] * 32) * 2)

    def test_aeroplanes_have_flown_nothing_and_none_is_away(self):
        before = in_plane(0, LATE, limits()) + flights(0, 0, 5, LATE, 30) + [go(0, LATE, 60), go(1, LATE, 60)]
        self.assertEqual(
            ask_behind(before, start(1), flew(0, 0, 30), flew(0, 5, 60), flew(1, 0, 60), of(0), part(0, EARLY),
                       put(0, 0, 5), put(0, 0), of(0), take(0, 5), take(0), put(0, 1), go(0, EARLY, 1), go(1, EARLY, 1),
                       flew(0, 0, 1), flew(0, 0, 30)),
            [0, -2, -2, -2, -2, 0, -71, 0, [0, 0, 0, 0, 0], -71, 0, 0, 0, 0, 1, -17])

    def test_refused_again_leaves_what_was_flown_and_who_is_away(self):
        before = in_plane(0, LATE, limits()) + flights(0, 0, 5, LATE, 30) + [go(0, LATE, 60)]
        for how_many in (0, 17, 18):
            with self.subTest(how_many=how_many):
                self.assertEqual(
                    ask_behind(before, start(how_many), go(0, LATE, 1), go(1, EARLY, 1), flew(0, 4, 30), flew(0, 4, 31),
                               of(0), flew(0, 5, 61), of(0)),
                    [-22, -16, -13, 0, -17, [0, 0, 0, 150, 5], 2, [0, 0, 0, 211, 6]])

    def test_refused_again_leaves_all_as_it_was(self):
        for how_many in (0, 17, 18):
            with self.subTest(how_many=how_many):
                told = ask(
                    start(2), part(1, EARLY), part(0, LATE), put(0, 5),
                    start(how_many),
                    put(0, 6), put(1, 5), part(2, LATE), part(1, EARLY), part(1, LATE), take(0))
                self.assertEqual(told, [0, 0, 1, 0, -22, -16, 0, -22, -13, 2, 0])

    def test_refused_first_then_taken(self):
        self.assertEqual(ask(start(0), start(17), start(18), start(1), part(0, EARLY)), [-22, -22, -22, 0, 0])


if __name__ == "__main__":
    unittest.main()
