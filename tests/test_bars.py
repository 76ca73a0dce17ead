import unittest

from tests.lines import (
    NO_DATE, TOP, ask_behind, bars, day_of, did, flew, flights, go, in_plane, limits, part, put, start_with, take)

EARLY = day_of(-1)
DAY = day_of(0)
LATE = day_of(1)
BEGUN = [start_with(limits())]


class WhatAFlightIsInTheWayOf(unittest.TestCase):
    def test_minutes(self):
        for task in range(4):
            row = [100 if place == task else 0 for place in range(4)]
            before = in_plane(2, DAY, limits(minutes=row)) + flights(2, 0, 1, DAY, 60)
            with self.subTest(task=task):
                self.assertEqual(ask_behind(before, bars(2, DAY, 40), bars(2, DAY, 41)), [-2, [0, 0, task, 0]])

    def test_landings(self):
        for task in range(4):
            row = [3 if place == task else 0 for place in range(4)]
            before = in_plane(2, DAY, limits(landings=row)) + flights(2, 0, 2, DAY, 60)
            with self.subTest(task=task):
                self.assertEqual(
                    ask_behind(before, bars(2, DAY, 1), *flights(2, 2, 1, DAY, 1), bars(2, DAY, 1)),
                    [-2, 2, 1, [0, 0, task, 1]])

    def test_days(self):
        for task in range(4):
            row = [30 if place == task else 0 for place in range(4)]
            before = in_plane(2, DAY, limits(days=row))
            with self.subTest(task=task):
                self.assertEqual(
                    ask_behind(before, bars(2, day_of(30), 1), bars(2, day_of(31), 1)), [-2, [0, 0, task, 2]])

    def test_limits_of_0_are_none(self):
        before = in_plane(2, DAY, limits()) + flights(2, 0, 100, DAY, 1440)
        self.assertEqual(ask_behind(before, bars(2, day_of(50000), 1440)), [-2])

    def test_an_aeroplane_without_parts(self):
        self.assertEqual(ask_behind(BEGUN, bars(2, DAY, 1440)), [-2])
        before = in_plane(2, DAY, limits(minutes=(1, 0, 0, 0)))
        self.assertEqual(ask_behind(before, bars(3, DAY, 2), take(0), bars(2, DAY, 2)), [-2, 0, -2])

    def test_minutes_ahead_of_landings_ahead_of_days(self):
        for minutes, landings, days, what in ((9, 1, 1, 0), (9, 0, 1, 0), (9, 1, 0, 0), (0, 1, 1, 1), (0, 1, 0, 1),
                                              (0, 0, 1, 2), (100, 1, 1, 1), (100, 9, 1, 2)):
            before = in_plane(2, DAY, limits((0, minutes, 0, 0), (0, landings, 0, 0), (0, days, 0, 0)))
            before += [take(0), put(0, 3)] + flights(3, 0, 1, DAY, 1)
            with self.subTest(minutes=minutes, landings=landings, days=days):
                self.assertEqual(ask_behind(before, bars(3, day_of(2), 10)), [[0, 0, 1, what]])

    def test_first_task_ahead_of_what(self):
        before = in_plane(2, DAY, limits((0, 0, 0, 5), (0, 0, 1, 0), (0, 1, 0, 0))) + flights(2, 0, 1, DAY, 1)
        self.assertEqual(
            ask_behind(before, bars(2, day_of(2), 10), bars(2, LATE, 10), did(0, 2, DAY), bars(2, LATE, 10),
                       did(0, 3, DAY), bars(2, LATE, 6), bars(2, LATE, 5)),
            [[0, 0, 1, 2], [0, 0, 2, 1], 0, [0, 0, 3, 0], 0, [0, 0, 3, 0], -2])

    def test_first_part_ahead_of_task_and_what(self):
        before = in_plane(2, DAY, limits(), limits(days=(0, 0, 0, 1)), limits(minutes=(5, 0, 0, 0)))
        self.assertEqual(
            ask_behind(before, bars(2, day_of(2), 10), bars(2, LATE, 10), take(1), bars(2, day_of(2), 10)),
            [[0, 1, 3, 2], [0, 2, 0, 0], 0, [0, 2, 0, 0]])

    def test_first_by_number_and_not_by_when_it_was_put_in(self):
        before = in_plane(2, DAY, *[limits(minutes=(5, 0, 0, 0))] * 3)
        self.assertEqual(
            ask_behind(before, take(0), bars(2, DAY, 10), put(0, 2), bars(2, DAY, 10)),
            [0, [0, 1, 0, 0], 0, [0, 0, 0, 0]])

    def test_last_part_and_last_aeroplane(self):
        before = [start_with(limits() + limits(days=(0, 0, 0, 1)))] + [part(0, DAY)] * 255
        before += [part(1, DAY), put(255, 15)]
        self.assertEqual(ask_behind(before, bars(15, day_of(2), 1)), [[0, 255, 3, 2]])

    def test_just_what_a_flight_is_held_back_for(self):
        before = in_plane(2, DAY, limits((7, 0, 0, 0), (0, 2, 0, 0), (0, 0, 3, 0)))
        for flown in range(3):
            for days in range(6):
                for minutes in range(1, 9):
                    asked = before + flights(2, 0, flown, DAY, 1)
                    barred = ask_behind(asked, bars(2, day_of(days), minutes))[0]
                    gone = ask_behind(asked, go(2, day_of(days), minutes))[0]
                    with self.subTest(flown=flown, days=days, minutes=minutes):
                        self.assertEqual((barred == -2, gone == -33), (gone == flown, barred != -2))

    def test_of_one_that_is_away(self):
        before = in_plane(2, DAY, limits(minutes=(100, 0, 0, 0))) + [go(2, DAY, 60)]
        self.assertEqual(
            ask_behind(before, bars(2, DAY, 100), bars(2, DAY, 101), flew(2, 0, 60), bars(2, DAY, 40),
                       bars(2, DAY, 41)),
            [-2, [0, 0, 0, 0], 1, -2, [0, 0, 0, 0]])

    def test_past_a_limit_by_a_longer_flight(self):
        before = in_plane(2, DAY, limits(minutes=(0, 100, 0, 0))) + [go(2, DAY, 100), flew(2, 0, 101)]
        self.assertEqual(ask_behind(before, bars(2, DAY, 1), did(0, 1, DAY), bars(2, DAY, 100)), [[0, 0, 1, 0], 0, -2])


class WhatIsAskedWrongly(unittest.TestCase):
    def setUp(self):
        self.before = in_plane(2, DAY, limits(minutes=(5, 0, 0, 0)))

    def test_minutes_at_their_bounds(self):
        for minutes, answer in ((0, -22), (1, -2), (5, -2), (6, [0, 0, 0, 0]), (1440, [0, 0, 0, 0]), (1441, -22),
                                (TOP, -22)):
            with self.subTest(minutes=minutes):
                self.assertEqual(ask_behind(self.before, bars(2, DAY, minutes)), [answer])

    def test_aeroplanes_at_their_bounds(self):
        for plane, answer in ((0, -2), (15, -2), (16, -22), (255, -22), (256, -22), (TOP, -22)):
            with self.subTest(plane=plane):
                self.assertEqual(ask_behind(self.before, bars(plane, DAY, 60)), [answer])

    def test_no_date(self):
        for number in (0, NO_DATE, TOP):
            with self.subTest(number=number):
                self.assertEqual(ask_behind(self.before, bars(2, number, 60)), [-22])

    def test_before_one_that_was_told(self):
        self.assertEqual(
            ask_behind(self.before, bars(2, EARLY, 60), bars(2, EARLY, 1), bars(0, EARLY, 1)), [-13, -13, -13])

    def test_invalid_ahead_of_too_early(self):
        self.assertEqual(
            ask_behind(self.before, bars(16, EARLY, 60), bars(2, EARLY, 0), bars(2, EARLY, 1441), bars(2, NO_DATE, 60)),
            [-22] * 4)

    def test_it_tells_no_date(self):
        self.assertEqual(
            ask_behind(self.before, bars(2, LATE, 60), bars(2, LATE, 1), bars(2, DAY, 1), go(2, DAY, 1), part(0, DAY)),
            [[0, 0, 0, 0], -2, -2, 0, 1])


if __name__ == "__main__":
    unittest.main()
