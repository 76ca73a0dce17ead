import unittest

from tests.lines import (
    TOP, ask_behind, day_of, did, flew, flights, go, in_plane, left, limits, of, part, put, start_with, take)

DAY = day_of(0)
LATE = day_of(1)
BEGUN = [start_with(limits())]


class AFlightIsTold(unittest.TestCase):
    def test_as_long_as_let_go_for_or_not(self):
        for minutes, answer in ((1, 1), (59, 1), (60, 1), (61, 2), (1441, 2), (65535, 2)):
            with self.subTest(minutes=minutes):
                self.assertEqual(
                    ask_behind(in_plane(3, DAY, limits()), go(3, DAY, 60), flew(3, 0, minutes), of(0)),
                    [0, answer, [0, 0, 3, minutes, 1]])

    def test_minutes_at_their_bounds(self):
        for minutes, answer in ((0, -22), (1, 1), (65535, 2), (65536, -22), (TOP, -22)):
            with self.subTest(minutes=minutes):
                self.assertEqual(ask_behind(BEGUN, go(0, DAY, 1), flew(0, 0, minutes)), [0, answer])

    def test_aeroplanes_at_their_bounds(self):
        for plane, answer in ((15, 1), (16, -22), (255, -22), (256, -22), (TOP, -22)):
            with self.subTest(plane=plane):
                self.assertEqual(ask_behind(BEGUN, go(15, DAY, 60), flew(plane, 0, 60)), [0, answer])

    def test_it_is_not_away_any_more(self):
        self.assertEqual(
            ask_behind(in_plane(3, DAY, limits()), go(3, DAY, 60), flew(3, 0, 90), take(0, 1), put(0, 3, 1),
                       did(0, 0, DAY), go(3, DAY, 60)),
            [0, 2, 0, 0, 0, 1])

    def test_it_has_flown_one_more(self):
        self.assertEqual(
            ask_behind(BEGUN, part(0, DAY), *flights(3, 0, 2, DAY, 60), put(0, 3), put(0, 3, 1), put(0, 3, 3),
                       put(0, 3, 2)),
            [0, 0, 1, 1, 1, -71, -71, -71, 0])

    def test_it_counts_for_each_part_in_it_and_for_no_other(self):
        before = in_plane(3, DAY, *[limits()] * 4) + [take(1), take(2), put(2, 4)]
        self.assertEqual(
            ask_behind(before, *flights(3, 0, 1, DAY, 60), *flights(4, 0, 2, DAY, 7), of(0), of(1), of(2), of(3)),
            [0, 1, 0, 1, 1, 1, [0, 0, 3, 60, 1], [0, 1, 255, 0, 0], [0, 2, 4, 14, 2], [0, 3, 3, 60, 1]])

    def test_it_counts_for_each_task(self):
        for task in range(4):
            row = [1000 if place == task else 0 for place in range(4)]
            before = in_plane(3, DAY, limits(row, row))
            with self.subTest(task=task):
                self.assertEqual(
                    ask_behind(before, *flights(3, 0, 1, DAY, 60), left(3, DAY), *flights(3, 1, 2, DAY, 5),
                               left(3, DAY)),
                    [0, 1, [1, 940, 999, TOP], 1, 1, 2, 1, [1, 930, 997, TOP]])

    def test_it_counts_as_many_minutes_as_it_flew_and_not_as_it_was_let_go_for(self):
        before = in_plane(3, DAY, limits(minutes=(1000, 0, 0, 0)))
        self.assertEqual(
            ask_behind(before, go(3, DAY, 60), flew(3, 0, 10), left(3, DAY), go(3, DAY, 60), flew(3, 1, 400),
                       left(3, DAY)),
            [0, 1, [1, 990, TOP, TOP], 1, 2, [1, 590, TOP, TOP]])

    def test_aeroplanes_that_are_away_at_once(self):
        before = in_plane(3, DAY, limits(), limits()) + [take(1), put(1, 4)]
        self.assertEqual(
            ask_behind(before, go(3, DAY, 60), go(4, DAY, 30), flew(4, 0, 31), of(0), of(1), flew(3, 0, 31), of(0),
                       of(1)),
            [0, 0, 2, [0, 0, 3, 0, 0], [0, 1, 4, 31, 1], 1, [0, 0, 3, 31, 1], [0, 1, 4, 31, 1]])


class AFlightIsToldAgain(unittest.TestCase):
    def test_with_as_many_minutes_and_with_others(self):
        before = in_plane(3, DAY, limits()) + [go(3, DAY, 60), flew(3, 0, 50)]
        self.assertEqual(
            ask_behind(before, flew(3, 0, 50), flew(3, 0, 50), flew(3, 0, 60), flew(3, 0, 49), flew(3, 0, 51),
                       flew(3, 0, 65535), flew(3, 0, 50), of(0)),
            [0, 0, -17, -17, -17, -17, 0, [0, 0, 3, 50, 1]])

    def test_each_flight_has_its_own_minutes(self):
        before = in_plane(3, DAY, limits())
        for number in range(10):
            before += flights(3, number, 1, DAY, 100 + number)
        for number in range(10):
            with self.subTest(number=number):
                asked = [flew(3, number, 100 + other) for other in range(10)]
                expected = [0 if other == number else -17 for other in range(10)]
                self.assertEqual(ask_behind(before, *asked, of(0)), expected + [[0, 0, 3, 1045, 10]])

    def test_each_aeroplane_has_flights_of_its_own(self):
        before = BEGUN + flights(3, 0, 1, DAY, 10) + flights(4, 0, 1, DAY, 20)
        self.assertEqual(
            ask_behind(before, flew(3, 0, 10), flew(4, 0, 20), flew(3, 0, 20), flew(4, 0, 10), flew(5, 0, 10)),
            [0, 0, -17, -17, -2])

    def test_of_a_flight_that_took_longer(self):
        self.assertEqual(
            ask_behind(BEGUN, go(3, DAY, 60), flew(3, 0, 90), flew(3, 0, 90), flew(3, 0, 60)), [0, 2, 0, -17])

    def test_while_the_next_one_is_away(self):
        before = in_plane(3, DAY, limits()) + flights(3, 0, 2, DAY, 50) + [go(3, DAY, 60)]
        self.assertEqual(
            ask_behind(before, flew(3, 0, 50), flew(3, 1, 50), flew(3, 1, 60), go(3, DAY, 60), of(0), flew(3, 2, 60),
                       of(0)),
            [0, 0, -17, -16, [0, 0, 3, 100, 2], 1, [0, 0, 3, 160, 3]])

    def test_63_flown_since_and_64_and_65(self):
        for flown_since in range(60, 68):
            before = in_plane(3, DAY, limits()) + flights(3, 0, 1, DAY, 50) + flights(3, 1, flown_since, DAY, 70)
            with self.subTest(flown_since=flown_since):
                others = -17 if flown_since < 64 else 0
                self.assertEqual(
                    ask_behind(before, flew(3, 0, 50), flew(3, 0, 70), flew(3, 0, 1), flew(3, 0, 65535), of(0)),
                    [0, others, others, others, [0, 0, 3, 50 + 70 * flown_since, 1 + flown_since]])

    def test_each_of_a_hundred(self):
        before = BEGUN + flights(3, 0, 100, DAY, 50)
        told = ask_behind(before, *[flew(3, number, 51) for number in range(100)])
        self.assertEqual(told, [0] * 36 + [-17] * 64)
        told = ask_behind(before, *[flew(3, number, 50) for number in range(100)])
        self.assertEqual(told, [0] * 100)

    def test_number_0_long_after(self):
        before = in_plane(3, DAY, limits()) + flights(3, 0, 450, DAY, 50)
        self.assertEqual(
            ask_behind(before, flew(3, 0, 50), flew(3, 0, 51), flew(3, 449, 51), flew(3, 450, 50), of(0)),
            [0, 0, -17, -2, [0, 0, 3, 22500, 450]])

    def test_away_does_not_count_as_flown(self):
        before = BEGUN + flights(3, 0, 64, DAY, 50) + [go(3, DAY, 50)]
        self.assertEqual(ask_behind(before, flew(3, 0, 51), flew(3, 64, 50), flew(3, 0, 51)), [-17, 1, 0])

    def test_wrong_minutes_are_refused_all_the_same(self):
        before = BEGUN + flights(3, 0, 70, DAY, 50)
        self.assertEqual(
            ask_behind(before, flew(3, 0, 0), flew(3, 0, 65536), flew(3, 69, 0), flew(3, 69, 65536)), [-22] * 4)


class AFlightIsNotTaken(unittest.TestCase):
    def test_it_is_not_away(self):
        self.assertEqual(
            ask_behind(BEGUN, flew(3, 0, 60), go(4, DAY, 60), flew(3, 0, 60), *flights(3, 0, 1, DAY, 60),
                       flew(3, 1, 60)),
            [-2, 0, -2, 0, 1, -2])

    def test_a_number_that_is_not_flown_yet(self):
        self.assertEqual(
            ask_behind(BEGUN, go(3, DAY, 60), flew(3, 1, 60), flew(3, 2, 60), flew(3, 256, 60), flew(3, TOP, 60),
                       flew(3, 0, 60), flew(3, 1, 60), go(3, DAY, 60), flew(3, 2, 60), flew(3, 1, 60)),
            [0, -2, -2, -2, -2, 1, -2, 1, -2, 1])

    def test_invalid_ahead_of_all_others(self):
        self.assertEqual(
            ask_behind(BEGUN, flew(16, 0, 60), flew(3, 0, 0), flew(3, 0, 65536), *flights(3, 0, 1, DAY, 60),
                       flew(3, 0, 0), flew(3, 5, 65536), flew(16, 0, 61)),
            [-22, -22, -22, 0, 1, -22, -22, -22])

    def test_refused_changes_nothing(self):
        before = in_plane(3, DAY, limits(minutes=(1000, 0, 0, 0))) + flights(3, 0, 1, DAY, 50) + [go(3, DAY, 60)]
        for refused, answer in ((flew(3, 1, 0), -22), (flew(3, 1, 65536), -22), (flew(16, 1, 60), -22),
                                (flew(3, 0, 51), -17), (flew(3, 2, 60), -2), (flew(4, 0, 60), -2)):
            with self.subTest(refused=refused):
                self.assertEqual(
                    ask_behind(before, refused, go(3, DAY, 1), of(0), left(3, DAY), flew(3, 0, 50), flew(3, 1, 61),
                               of(0)),
                    [answer, -16, [0, 0, 3, 50, 1], [1, 950, TOP, TOP], 0, 2, [0, 0, 3, 111, 2]])

    def test_not_away_changes_nothing(self):
        before = in_plane(3, DAY, limits(minutes=(1000, 0, 0, 0))) + flights(3, 0, 1, DAY, 50)
        self.assertEqual(
            ask_behind(before, flew(3, 1, 60), of(0), left(3, DAY), take(0, 1), put(0, 3, 1), go(3, DAY, 70),
                       flew(3, 1, 70)),
            [-2, [0, 0, 3, 50, 1], [1, 950, TOP, TOP], 0, 0, 1, 1])


if __name__ == "__main__":
    unittest.main()
