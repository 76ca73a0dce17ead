import unittest

from tests.lines import (
    NO_DATE, TOP, ask, ask_behind, date, did, flew, flights, go, in_plane, left, limits, of, part, put, start, take)

EARLY = date(2026, 11, 18)
MIDDLE = date(2026, 11, 19)
LATE = date(2026, 11, 20)


class ATaskIsDone(unittest.TestCase):
    def test_each_task_of_several_parts(self):
        self.assertEqual(
            ask(start(2), part(0, EARLY), part(1, EARLY), did(0, 0, EARLY), did(1, 3, MIDDLE), did(0, 1, MIDDLE),
                did(1, 2, LATE), did(1, 2, LATE)),
            [0, 0, 1, 0, 0, 0, 0, 0])

    def test_in_an_aeroplane_and_in_none(self):
        self.assertEqual(
            ask(start(1), part(0, EARLY), did(0, 0, EARLY), put(0, 0), did(0, 0, EARLY), take(0), did(0, 0, EARLY)),
            [0, 0, 0, 0, 0, 0, 0])

    def test_it_tells_its_date(self):
        self.assertEqual(
            ask(start(1), part(0, EARLY), did(0, 0, MIDDLE), did(0, 1, EARLY), did(0, 1, MIDDLE), did(0, 1, LATE),
                did(0, 2, MIDDLE)),
            [0, 0, 0, -13, 0, 0, -13])


class ATaskThatIsDoneBeginsAnew(unittest.TestCase):
    def left_of_each_task(self, *between):
        """What is left behind three flights and the calls between, where just one task of part 0 has limits."""
        told = []
        for task in range(4):
            row = [1000 if place == task else 0 for place in range(4)]
            before = in_plane(4, EARLY, limits(row, row, row), limits()) + flights(4, 0, 3, EARLY, 50)
            told.append(ask(*before, *between, left(4, LATE))[-1])
        return told

    def test_just_that_task(self):
        as_flown = [2, 850, 997, 998]
        self.assertEqual(self.left_of_each_task(), [as_flown] * 4)
        for task in range(4):
            with self.subTest(task=task):
                expected = [as_flown] * 4
                expected[task] = [2, 1000, 1000, 1000]
                self.assertEqual(self.left_of_each_task(did(0, task, LATE)), expected)
                expected[task] = [2, 1000, 1000, 999]
                self.assertEqual(self.left_of_each_task(did(0, task, MIDDLE)), expected)

    def test_just_that_part(self):
        for task in range(4):
            with self.subTest(task=task):
                self.assertEqual(self.left_of_each_task(did(1, task, LATE)), [[2, 850, 997, 998]] * 4)

    def test_it_counts_on_from_there(self):
        counted_on = self.left_of_each_task(did(0, 2, MIDDLE), *flights(4, 3, 2, MIDDLE, 20))
        self.assertEqual(counted_on, [[2, 810, 995, 998], [2, 810, 995, 998], [2, 960, 998, 999], [2, 810, 995, 998]])

    def test_what_it_has_flown_in_all_stays(self):
        self.assertEqual(
            ask_behind(in_plane(4, EARLY, limits()) + flights(4, 0, 3, EARLY, 50),
                       *[did(0, task, LATE) for task in range(4)], of(0)),
            [0, 0, 0, 0, [0, 0, 4, 150, 3]])


class ATaskIsRefused(unittest.TestCase):
    def test_no_such_task(self):
        for task in (4, 5, 256, TOP):
            with self.subTest(task=task):
                self.assertEqual(ask(start(1), part(0, EARLY), did(0, task, EARLY)), [0, 0, -22])

    def test_no_such_part(self):
        for number in (1, 255, 256, TOP):
            with self.subTest(number=number):
                self.assertEqual(ask(start(1), part(0, EARLY), did(number, 3, EARLY)), [0, 0, -2])

    def test_no_date(self):
        for number in (0, NO_DATE, TOP):
            with self.subTest(number=number):
                self.assertEqual(ask(start(1), part(0, EARLY), did(0, 0, number)), [0, 0, -22])

    def test_before_one_that_was_told(self):
        self.assertEqual(ask(start(1), part(0, MIDDLE), did(0, 0, EARLY), did(0, 0, MIDDLE)), [0, 0, -13, 0])

    def test_in_an_aeroplane_that_is_away(self):
        row = (1000, 0, 0, 0)
        before = in_plane(4, EARLY, limits(row, row, row), limits()) + flights(4, 0, 1, EARLY, 50)
        self.assertEqual(
            ask_behind(before, go(4, EARLY, 60), did(0, 0, LATE), did(1, 0, LATE), left(4, LATE),
                       flew(4, 1, 60), did(0, 0, LATE), left(4, LATE)),
            [1, -16, -16, [2, 950, 999, 998], 1, 0, [2, 1000, 1000, 1000]])

    def test_refused_for_one_that_is_away_tells_no_date(self):
        self.assertEqual(
            ask_behind(in_plane(4, EARLY, limits()),
                       go(4, EARLY, 1), did(0, 0, LATE), part(0, EARLY), did(1, 0, EARLY)),
            [0, -16, 1, 0])

    def test_another_one_away_is_no_matter(self):
        self.assertEqual(ask_behind(in_plane(4, EARLY, limits()), go(5, EARLY, 1), did(0, 0, LATE)), [0, 0])

    def test_no_such_task_ahead_of_no_such_part(self):
        self.assertEqual(ask(start(1), did(0, 4, EARLY), did(0, 4, NO_DATE)), [0, -22, -22])

    def test_no_such_task_ahead_of_too_early(self):
        self.assertEqual(ask(start(1), part(0, LATE), did(0, 4, EARLY)), [0, 0, -22])

    def test_no_such_part_ahead_of_no_date_and_too_early(self):
        self.assertEqual(ask(start(1), part(0, LATE), did(1, 0, NO_DATE), did(1, 0, EARLY)), [0, 0, -2, -2])

    def test_all_others_ahead_of_away(self):
        self.assertEqual(
            ask_behind(in_plane(4, EARLY, limits()), go(4, MIDDLE, 60), did(0, 4, LATE), did(1, 0, LATE),
                       did(0, 0, NO_DATE), did(0, 0, EARLY), did(0, 0, MIDDLE)),
            [0, -22, -2, -22, -13, -16])

    def test_refused_tells_no_date(self):
        self.assertEqual(
            ask(start(1), part(0, EARLY), did(0, 4, LATE), did(1, 0, LATE), did(0, 0, NO_DATE), did(0, 0, MIDDLE),
                did(0, 0, EARLY), part(0, MIDDLE)),
            [0, 0, -22, -2, -22, 0, -13, 1])


if __name__ == "__main__":
    unittest.main()
