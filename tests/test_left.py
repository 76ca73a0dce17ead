import unittest

from tests.lines import (
    NO_DATE, TOP, ask_behind, date, day_of, did, flew, flights, go, in_plane, left, limits, part, put, start_with, take)

EARLY = day_of(-1)
DAY = day_of(0)
LATE = day_of(1)
BEGUN = [start_with(limits())]


class WhatIsLeft(unittest.TestCase):
    def test_without_parts(self):
        self.assertEqual(ask_behind(BEGUN, left(0, DAY), left(15, DAY)), [[0, TOP, TOP, TOP]] * 2)
        before = in_plane(3, DAY, limits([5] * 4, [5] * 4, [5] * 4))
        self.assertEqual(ask_behind(before, take(0), left(3, DAY), left(2, DAY)), [0] + [[0, TOP, TOP, TOP]] * 2)

    def test_of_parts_without_limits(self):
        before = in_plane(3, DAY, limits(), limits()) + flights(3, 0, 5, DAY, 60)
        self.assertEqual(ask_behind(before, left(3, day_of(1000))), [[2, TOP, TOP, TOP]])

    def test_least_of_the_tasks(self):
        for places in ((0, 1, 2, 3), (1, 2, 3, 0), (2, 3, 0, 1), (3, 0, 1, 2)):
            row = [10 + place for place in places]
            with self.subTest(row=row):
                before = in_plane(3, DAY, limits([100 * n for n in row], row, [20 * n for n in row]))
                self.assertEqual(ask_behind(before, left(3, DAY)), [[1, 1000, 10, 200]])

    def test_least_of_the_parts(self):
        before = in_plane(3, DAY, limits((0, 70, 0, 0)), limits((0, 0, 60, 0), (9, 0, 0, 0), (0, 0, 0, 40)),
                          limits((90, 0, 0, 0), (0, 0, 8, 0), (0, 50, 0, 0)))
        self.assertEqual(
            ask_behind(before, left(3, DAY), take(1), left(3, DAY), take(0), left(3, DAY), put(1, 3), left(3, LATE)),
            [[3, 60, 8, 40], 0, [2, 70, 8, 50], 0, [1, 90, 8, 50], 0, [2, 60, 8, 39]])

    def test_a_task_without_a_limit_is_passed_over(self):
        for what in range(3):
            rows = [(0, 0, 0, 0)] * 3
            rows[what] = (0, 0, 25, 0)
            expected = [1, TOP, TOP, TOP]
            expected[1 + what] = 25
            with self.subTest(what=what):
                self.assertEqual(ask_behind(in_plane(3, DAY, limits(*rows)), left(3, DAY)), [expected])

    def test_each_counts_down(self):
        before = in_plane(3, DAY, limits((0, 100, 0, 0), (0, 0, 3, 0), (0, 0, 0, 2)))
        self.assertEqual(
            ask_behind(before, left(3, DAY), *flights(3, 0, 1, DAY, 60), left(3, DAY), left(3, LATE),
                       *flights(3, 1, 1, LATE, 40), left(3, day_of(2)), *flights(3, 2, 1, LATE, 1)),
            [[1, 100, 3, 2], 0, 1, [1, 40, 2, 2], [1, 40, 2, 1], 1, 1, [1, 0, 1, 0], -33, -2])

    def test_with_nothing_left(self):
        before = in_plane(3, DAY, limits((0, 100, 0, 0), (0, 0, 1, 0), (0, 0, 0, 2))) + flights(3, 0, 1, DAY, 100)
        self.assertEqual(ask_behind(before, left(3, day_of(2)), left(3, day_of(3)), left(3, day_of(3000))),
                         [[1, 0, 0, 0]] * 3)

    def test_past_a_limit_it_is_at_least_0(self):
        before = in_plane(3, DAY, limits((0, 100, 0, 0), (0, 1, 0, 0))) + [go(3, DAY, 100), flew(3, 0, 65535)]
        self.assertEqual(ask_behind(before, left(3, DAY), did(0, 1, DAY), left(3, DAY)),
                         [[1, 0, 0, TOP], 0, [1, 100, 1, TOP]])

    def test_of_a_part_put_in_with_what_it_has(self):
        row = (1000, 0, 0, 0)
        before = in_plane(3, DAY, limits(row, row, row)) + flights(3, 0, 2, DAY, 60) + [take(0, 2)]
        self.assertEqual(
            ask_behind(before, left(3, DAY), left(4, DAY), put(0, 4), left(3, DAY), left(4, day_of(10))),
            [[0, TOP, TOP, TOP], [0, TOP, TOP, TOP], 0, [0, TOP, TOP, TOP], [1, 880, 998, 990]])

    def test_days_on_the_date_that_is_told(self):
        before = in_plane(3, DAY, limits(days=(400, 0, 0, 0)))
        for passed in (0, 1, 12, 42, 43, 399, 400, 401):
            with self.subTest(passed=passed):
                self.assertEqual(ask_behind(before, left(3, day_of(passed))), [[1, TOP, TOP, max(400 - passed, 0)]])

    def test_days_of_all_dates(self):
        before = in_plane(3, date(1900, 1, 1), limits(days=(0, 200000, 0, 0)))
        self.assertEqual(ask_behind(before, left(3, date(2199, 12, 31))), [[1, TOP, TOP, 200000 - 109572]])

    def test_greatest_limits(self):
        before = in_plane(3, DAY, limits([TOP] * 4, [TOP] * 4, [TOP] * 4)) + flights(3, 0, 1, DAY, 60)
        self.assertEqual(ask_behind(before, left(3, LATE)), [[1, TOP - 60, TOP - 1, TOP - 1]])

    def test_of_one_that_is_away(self):
        before = in_plane(3, DAY, limits(minutes=(100, 0, 0, 0))) + [go(3, DAY, 60)]
        self.assertEqual(ask_behind(before, left(3, DAY), flew(3, 0, 60), left(3, DAY)),
                         [[1, 100, TOP, TOP], 1, [1, 40, TOP, TOP]])

    def test_as_many_parts_as_it_may_have(self):
        before = [start_with(limits(minutes=(9, 0, 0, 0)))] + [part(0, DAY)] * 32
        before += [put(number, 3) for number in range(32)]
        self.assertEqual(ask_behind(before, left(3, DAY)), [[32, 9, TOP, TOP]])


class WhatIsAskedWrongly(unittest.TestCase):
    def setUp(self):
        self.before = in_plane(3, DAY, limits(days=(5, 0, 0, 0)))

    def test_aeroplanes_at_their_bounds(self):
        for plane, answer in ((0, [0, TOP, TOP, TOP]), (15, [0, TOP, TOP, TOP]), (16, -22), (256, -22), (TOP, -22)):
            with self.subTest(plane=plane):
                self.assertEqual(ask_behind(self.before, left(plane, DAY)), [answer])

    def test_no_date(self):
        for number in (0, NO_DATE, TOP):
            with self.subTest(number=number):
                self.assertEqual(ask_behind(self.before, left(3, number)), [-22])

    def test_before_one_that_was_told(self):
        self.assertEqual(ask_behind(self.before, left(3, EARLY), left(0, EARLY), go(5, LATE, 1), left(3, DAY)),
                         [-13, -13, 0, -13])

    def test_invalid_ahead_of_too_early(self):
        self.assertEqual(ask_behind(self.before, left(16, EARLY), left(3, NO_DATE)), [-22, -22])

    def test_it_tells_no_date(self):
        self.assertEqual(
            ask_behind(self.before, left(3, LATE), left(3, DAY), part(0, DAY), left(3, day_of(60000)), go(3, DAY, 1)),
            [[1, TOP, TOP, 4], [1, TOP, TOP, 5], 1, [1, TOP, TOP, 0], 0])


if __name__ == "__main__":
    unittest.main()
