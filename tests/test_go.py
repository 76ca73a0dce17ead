import unittest

from tests.lines import (
    NO_DATE, TOP, ask, ask_behind, bars, date, day_of, did, flew, flights, go, in_plane, left, limits, of, part, put,
    start_with, take)

EARLY = day_of(-1)
DAY = day_of(0)
LATE = day_of(1)
BEGUN = [start_with(limits())]


class AFlightIsLetGo(unittest.TestCase):
    def test_it_answers_the_number_of_the_flight(self):
        told = ask_behind(BEGUN, *flights(3, 0, 70, DAY, 60))
        self.assertEqual(told[0::2], list(range(70)))

    def test_each_aeroplane_has_flights_of_its_own(self):
        self.assertEqual(
            ask_behind(BEGUN + flights(0, 0, 2, DAY, 5) + flights(15, 0, 3, DAY, 5),
                       go(0, DAY, 5), go(15, DAY, 5), go(7, DAY, 5)),
            [2, 3, 0])

    def test_all_sixteen_may_be_away_at_once(self):
        self.assertEqual(
            ask_behind(BEGUN, *[go(plane, DAY, 1) for plane in range(16)], *[go(plane, DAY, 1) for plane in range(16)]),
            [0] * 16 + [-16] * 16)

    def test_minutes_at_their_bounds(self):
        for minutes, answer in ((0, -22), (1, 0), (1440, 0), (1441, -22), (65536, -22), (TOP, -22)):
            with self.subTest(minutes=minutes):
                self.assertEqual(ask_behind(BEGUN, go(0, DAY, minutes)), [answer])

    def test_aeroplanes_at_their_bounds(self):
        for plane, answer in ((0, 0), (15, 0), (16, -22), (255, -22), (256, -22), (TOP, -22)):
            with self.subTest(plane=plane):
                self.assertEqual(ask_behind(BEGUN, go(plane, DAY, 60)), [answer])

    def test_first_and_last_date(self):
        self.assertEqual(ask_behind(BEGUN, go(0, date(1900, 1, 1), 60), go(1, date(2199, 12, 31), 60)), [0, 0])

    def test_it_tells_its_date(self):
        self.assertEqual(
            ask_behind(BEGUN, go(0, DAY, 60), part(0, EARLY), go(1, EARLY, 60), go(1, DAY, 60), part(0, LATE)),
            [0, -13, -13, 0, 0])

    def test_a_flight_that_is_told_tells_no_date(self):
        self.assertEqual(
            ask_behind(BEGUN, go(0, EARLY, 60), flew(0, 0, 60), go(0, EARLY, 60), go(1, DAY, 60), flew(0, 1, 60),
                       go(0, EARLY, 60)),
            [0, 1, 1, 0, 1, -13])


class AFlightIsHeldBackAtALimit(unittest.TestCase):
    def test_minutes(self):
        for task in range(4):
            row = [100 if place == task else 0 for place in range(4)]
            before = in_plane(2, DAY, limits(minutes=row))
            with self.subTest(task=task):
                self.assertEqual(ask_behind(before, go(2, DAY, 101), go(2, DAY, 100)), [-33, 0])
                self.assertEqual(
                    ask_behind(before + flights(2, 0, 1, DAY, 60), go(2, DAY, 41), go(2, DAY, 40), flew(2, 1, 40),
                               go(2, DAY, 1)),
                    [-33, 1, 1, -33])

    def test_landings(self):
        for task in range(4):
            row = [3 if place == task else 0 for place in range(4)]
            before = in_plane(2, DAY, limits(landings=row))
            with self.subTest(task=task):
                self.assertEqual(
                    ask_behind(before, *flights(2, 0, 3, DAY, 1), go(2, DAY, 1)),
                    [0, 1, 1, 1, 2, 1, -33])

    def test_days(self):
        for task in range(4):
            row = [30 if place == task else 0 for place in range(4)]
            before = in_plane(2, DAY, limits(days=row))
            with self.subTest(task=task):
                self.assertEqual(
                    ask_behind(before, go(2, day_of(31), 1), go(2, day_of(30), 1), flew(2, 0, 1), go(2, day_of(31), 1)),
                    [-33, 0, 1, -33])

    def test_days_over_a_leap_day_and_over_one_that_is_not(self):
        for came, last, behind in ((date(2000, 2, 28), date(2000, 3, 1), date(2000, 3, 2)),
                                   (date(2100, 2, 28), date(2100, 3, 2), date(2100, 3, 3)),
                                   (date(1999, 12, 31), date(2000, 1, 2), date(2000, 1, 3))):
            with self.subTest(came=came):
                before = in_plane(2, came, limits(days=(2, 0, 0, 0)))
                self.assertEqual(ask_behind(before, go(2, behind, 1), go(2, last, 1)), [-33, 0])

    def test_limits_of_0_are_none(self):
        before = in_plane(2, date(1900, 1, 1), limits())
        told = ask_behind(before, *flights(2, 0, 400, date(2199, 12, 31), 1440))
        self.assertEqual(told[0::2], list(range(400)))

    def test_limits_of_1(self):
        before = in_plane(2, DAY, limits((1, 0, 0, 0), (0, 1, 0, 0), (0, 0, 1, 0)))
        self.assertEqual(
            ask_behind(before, go(2, LATE, 2), go(2, day_of(2), 1), go(2, LATE, 1), flew(2, 0, 1), did(0, 0, LATE),
                       go(2, LATE, 1), did(0, 1, LATE), go(2, LATE, 1)),
            [-33, -33, 0, 1, 0, -33, 0, 1])

    def test_greatest_limits(self):
        before = in_plane(2, date(1900, 1, 1), limits([TOP] * 4, [TOP] * 4, [TOP] * 4))
        self.assertEqual(ask_behind(before, go(2, date(2199, 12, 31), 1440)), [0])

    def test_any_part_in_the_aeroplane(self):
        for strict in range(3):
            held = [limits(minutes=(0, 0, 0, 59)) if number == strict else limits() for number in range(3)]
            with self.subTest(strict=strict):
                before = in_plane(2, DAY, *held)
                self.assertEqual(ask_behind(before, go(2, DAY, 60), go(2, DAY, 59)), [-33, 0])
                self.assertEqual(ask_behind(before, take(strict), go(2, DAY, 60)), [0, 0])

    def test_parts_in_other_aeroplanes_or_in_none_are_no_matter(self):
        before = in_plane(2, DAY, limits(minutes=(10, 0, 0, 0)), limits(minutes=(10, 0, 0, 0)))
        self.assertEqual(
            ask_behind(before, take(0), go(3, DAY, 60), go(2, DAY, 60), take(1), go(2, DAY, 60)),
            [0, 0, -33, 0, 0])

    def test_a_part_brings_what_it_flew_in_another_aeroplane(self):
        before = in_plane(2, DAY, limits(minutes=(100, 0, 0, 0))) + flights(2, 0, 1, DAY, 60)
        self.assertEqual(
            ask_behind(before, take(0, 1), put(0, 5), go(5, DAY, 41), go(5, DAY, 40)),
            [0, 0, -33, 0])

    def test_flights_without_the_part_do_not_count(self):
        before = in_plane(2, DAY, limits(minutes=(100, 0, 0, 0))) + [take(0)] + flights(2, 0, 2, DAY, 90)
        self.assertEqual(
            ask_behind(before, go(2, DAY, 101), flew(2, 2, 101), put(0, 2, 3), go(2, DAY, 101), go(2, DAY, 100)),
            [2, 1, 0, -33, 3])

    def test_a_task_that_is_done_lets_it_go_again(self):
        before = in_plane(2, DAY, limits((100, 0, 0, 0), (0, 1, 0, 0))) + flights(2, 0, 1, DAY, 100)
        self.assertEqual(
            ask_behind(before, go(2, DAY, 1), did(0, 0, DAY), go(2, DAY, 1), did(0, 1, DAY), go(2, DAY, 100)),
            [-33, 0, -33, 0, 1])

    def test_past_a_limit_by_a_longer_flight_none_goes_until_the_task_is_done(self):
        before = in_plane(2, DAY, limits(minutes=(100, 0, 0, 0))) + [go(2, DAY, 100)]
        self.assertEqual(
            ask_behind(before, flew(2, 0, 300), go(2, DAY, 1), did(0, 1, DAY), go(2, DAY, 1), did(0, 0, DAY),
                       go(2, DAY, 100)),
            [2, -33, 0, -33, 0, 1])

    def test_less_flown_than_let_go_for_leaves_the_rest(self):
        before = in_plane(2, DAY, limits(minutes=(100, 0, 0, 0))) + [go(2, DAY, 100), flew(2, 0, 30)]
        self.assertEqual(ask_behind(before, go(2, DAY, 71), go(2, DAY, 70)), [-33, 1])


class AFlightIsNotLetGo(unittest.TestCase):
    def test_no_date(self):
        for number in (0, NO_DATE, TOP):
            with self.subTest(number=number):
                self.assertEqual(ask_behind(BEGUN, go(0, number, 60)), [-22])

    def test_before_one_that_was_told(self):
        self.assertEqual(ask_behind(BEGUN, part(0, DAY), go(0, EARLY, 60), go(0, DAY, 60)), [0, -13, 0])
        self.assertEqual(
            ask_behind(BEGUN, part(0, EARLY), did(0, 0, DAY), go(0, EARLY, 60), go(0, DAY, 60)),
            [0, 0, -13, 0])

    def test_away_already(self):
        self.assertEqual(
            ask_behind(BEGUN, go(4, DAY, 60), go(4, DAY, 60), go(4, LATE, 1), go(5, DAY, 60), flew(4, 0, 60),
                       go(4, DAY, 60)),
            [0, -16, -16, 0, 1, 1])

    def test_invalid_ahead_of_all_others(self):
        before = in_plane(4, DAY, limits(minutes=(10, 0, 0, 0)))
        self.assertEqual(
            ask_behind(before, go(16, EARLY, 60), go(4, EARLY, 0), go(4, EARLY, 1441), go(4, NO_DATE, 60)), [-22] * 4)
        self.assertEqual(
            ask_behind(before, go(4, DAY, 1), go(4, DAY, 0), go(4, DAY, 1441), go(4, NO_DATE, 60), go(16, DAY, 60)),
            [0] + [-22] * 4)

    def test_too_early_ahead_of_away_and_in_the_way(self):
        before = in_plane(4, DAY, limits(minutes=(10, 0, 0, 0)))
        self.assertEqual(
            ask_behind(before, go(4, EARLY, 60), go(4, EARLY, 1), go(4, DAY, 1), go(4, EARLY, 60)), [-13, -13, 0, -13])

    def test_away_ahead_of_in_the_way(self):
        before = in_plane(4, DAY, limits(minutes=(10, 0, 0, 0)))
        self.assertEqual(ask_behind(before, go(4, DAY, 60), go(4, DAY, 1), go(4, DAY, 60)), [-33, 0, -16])

    def test_refused_tells_no_date(self):
        before = in_plane(4, EARLY, limits(minutes=(10, 0, 0, 0)))
        for refused, answer in ((go(16, LATE, 1), -22), (go(4, LATE, 0), -22), (go(4, LATE, 11), -33)):
            with self.subTest(refused=refused):
                self.assertEqual(ask_behind(before, refused, part(0, DAY), part(0, EARLY)), [answer, 1, -13])
        self.assertEqual(ask_behind(before, go(4, EARLY, 1), go(4, LATE, 1), part(0, DAY)), [0, -16, 1])
        self.assertEqual(ask_behind(before, part(0, DAY), go(4, EARLY, 1), part(0, DAY), part(0, EARLY)),
                         [1, -13, 2, -13])

    def test_refused_does_not_send_it_away(self):
        before = in_plane(4, DAY, limits(minutes=(10, 0, 0, 0)))
        for refused, answer in ((go(4, DAY, 0), -22), (go(4, NO_DATE, 1), -22), (go(4, EARLY, 1), -13),
                                (go(4, DAY, 11), -33)):
            with self.subTest(refused=refused):
                self.assertEqual(
                    ask_behind(before, refused, flew(4, 0, 1), did(0, 0, DAY), of(0), take(0), put(0, 4),
                               go(4, DAY, 10)),
                    [answer, -2, 0, [0, 0, 4, 0, 0], 0, 0, 0])

    def test_refused_as_away_leaves_what_it_was_let_go_for(self):
        self.assertEqual(ask_behind(BEGUN, go(4, DAY, 60), go(4, DAY, 90), flew(4, 0, 61)), [0, -16, 2])
        self.assertEqual(ask_behind(BEGUN, go(4, DAY, 60), go(4, DAY, 30), flew(4, 0, 60)), [0, -16, 1])

    def test_asking_lets_nothing_go(self):
        self.assertEqual(
            ask(*in_plane(4, DAY, limits()), bars(4, DAY, 60), left(4, DAY), flew(4, 0, 60))[3:],
            [-2, [1, TOP, TOP, TOP], -2])


if __name__ == "__main__":
    unittest.main()
