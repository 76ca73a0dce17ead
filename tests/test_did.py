import unittest

from flightbook.dates import day_number
from tests.lines import TOP, ask, book_with_parts, date, did, part, put, start, take

EARLY = date(2026, 11, 18)
MIDDLE = date(2026, 11, 19)
LATE = date(2026, 11, 20)
NO_DATE = date(2026, 11, 31)


class ATaskIsDone(unittest.TestCase):
    def test_each_task_of_several_parts(self):
        self.assertEqual(
            ask(start(2), part(0, EARLY), part(1, EARLY), did(0, 0, EARLY), did(1, 3, MIDDLE), did(0, 1, MIDDLE),
                did(1, 2, LATE), did(1, 2, LATE)),
            [0, 0, 1, 0, 0, 0, 0, 0])

    def test_in_an_aeroplane_and_in_none(self):
        self.assertEqual(
            ask(start(1), part(0, EARLY), did(0, 0, EARLY), put(0, 0), did(0, 0, EARLY), take(0), did(0, 0, EARLY)),
            [0, 0, 0, 0, 0, 0, 0])

    def test_just_that_task_of_just_that_part_begins_anew(self):
        book = book_with_parts(2, EARLY)
        for each in book.parts:
            each.minutes = 500
            each.landings = 9
            each.minutes_since = [100, 200, 300, 400]
            each.landings_since = [1, 2, 3, 4]
        self.assertEqual(book.ft_did(1, 2, LATE), 0)
        self.assertEqual(book.parts[1].minutes_since, [100, 200, 0, 400])
        self.assertEqual(book.parts[1].landings_since, [1, 2, 0, 4])
        early, late = day_number(EARLY), day_number(LATE)
        self.assertEqual(book.parts[1].done_on, [early, early, late, early])
        self.assertEqual((book.parts[1].minutes, book.parts[1].landings), (500, 9))
        self.assertEqual(book.parts[0].minutes_since, [100, 200, 300, 400])
        self.assertEqual(book.parts[0].landings_since, [1, 2, 3, 4])
        self.assertEqual(book.parts[0].done_on, [early] * 4)

    def test_it_tells_its_date(self):
        self.assertEqual(
            ask(start(1), part(0, EARLY), did(0, 0, MIDDLE), did(0, 1, EARLY), did(0, 1, MIDDLE), did(0, 1, LATE),
                did(0, 2, MIDDLE)),
            [0, 0, 0, -13, 0, 0, -13])


class ATaskIsRefused(unittest.TestCase):
    def test_no_such_task(self):
        for task in (4, 5, 256, TOP):
            with self.subTest(task=task):
                self.assertEqual(ask(start(1), part(0, EARLY), did(0, task, EARLY)), [0, 0, -22])

    def test_no_such_part(self):
        for number in (1, 255, 256, TOP):
            with self.subTest(number=number):
                self.assertEqual(ask(start(1), part(0, EARLY), did(number, 3, EARLY)), [0, 0, -2])

    def test_no_date(self):
        for number in (0, NO_DATE, TOP):
            with self.subTest(number=number):
                self.assertEqual(ask(start(1), part(0, EARLY), did(0, 0, number)), [0, 0, -22])

    def test_before_one_that_was_told(self):
        self.assertEqual(ask(start(1), part(0, MIDDLE), did(0, 0, EARLY), did(0, 0, MIDDLE)), [0, 0, -13, 0])

    def test_in_an_aeroplane_that_is_away(self):
        book = book_with_parts(2, EARLY)
        book.ft_put(0, 4, 0)
        book.ft_put(1, 5, 0)
        book.planes[4].let_go_for = 1
        self.assertEqual(book.ft_did(0, 0, LATE), -16)
        self.assertEqual(book.parts[0].done_on, [day_number(EARLY)] * 4)
        # What was refused told no date, so one before it may still come.
        self.assertEqual(book.ft_did(1, 0, MIDDLE), 0)

    def test_no_such_task_ahead_of_no_such_part(self):
        self.assertEqual(ask(start(1), did(0, 4, EARLY), did(0, 4, NO_DATE)), [0, -22, -22])

    def test_no_such_task_ahead_of_too_early(self):
        self.assertEqual(ask(start(1), part(0, LATE), did(0, 4, EARLY)), [0, 0, -22])

    def test_no_such_part_ahead_of_no_date_and_too_early(self):
        self.assertEqual(ask(start(1), part(0, LATE), did(1, 0, NO_DATE), did(1, 0, EARLY)), [0, 0, -2, -2])

    def test_all_others_ahead_of_away(self):
        book = book_with_parts(1, EARLY)
        book.ft_put(0, 4, 0)
        book.planes[4].let_go_for = 60
        book.latest_day = day_number(MIDDLE)
        self.assertEqual(book.ft_did(0, 4, LATE), -22)
        self.assertEqual(book.ft_did(1, 0, LATE), -2)
        self.assertEqual(book.ft_did(0, 0, NO_DATE), -22)
        self.assertEqual(book.ft_did(0, 0, EARLY), -13)
        self.assertEqual(book.ft_did(0, 0, MIDDLE), -16)

    def test_refused_tells_no_date(self):
        self.assertEqual(
            ask(start(1), part(0, EARLY), did(0, 4, LATE), did(1, 0, LATE), did(0, 0, NO_DATE), did(0, 0, MIDDLE),
                did(0, 0, EARLY), part(0, MIDDLE)),
            [0, 0, -22, -2, -22, 0, -13, 1])


if __name__ == "__main__":
    unittest.main()
