import datetime
import unittest

from flightbook.dates import day_number, is_date
from tests.lines import TOP, ask, date, part, start

SOME_DAY = date(2026, 11, 19)


def is_taken(number):
    """Whether ft_part takes this number for a date, where nothing else could be refused."""
    answer = ask(start(1), part(0, number))[1]
    if answer not in (0, -22):
        raise AssertionError(f"neither taken nor no date: {answer}")
    return answer == 0


class WhichNumbersAreADate(unittest.TestCase):
    def test_years(self):
        for year, expected in ((0, False), (1899, False), (1900, True), (2199, True), (2200, False), (4095, False)):
            for month, day in ((1, 1), (6, 15), (12, 31)):
                with self.subTest(year=year, month=month, day=day):
                    self.assertEqual(is_taken(date(year, month, day)), expected)

    def test_months(self):
        for month in range(16):
            with self.subTest(month=month):
                self.assertEqual(is_taken(date(2001, month, 1)), 1 <= month <= 12)

    def test_last_day_of_each_month(self):
        lengths = (31, 28, 31, 30, 31, 30, 31, 31, 30, 31, 30, 31)
        for month, length in enumerate(lengths, start=1):
            with self.subTest(month=month):
                self.assertFalse(is_taken(date(2001, month, 0)))
                self.assertTrue(is_taken(date(2001, month, 1)))
                self.assertTrue(is_taken(date(2001, month, length)))
                self.assertFalse(is_taken(date(2001, month, length + 1)))

    def test_last_day_of_february(self):
        for year, length in ((1900, 28), (1904, 29), (1999, 28), (2000, 29), (2001, 28), (2004, 29), (2100, 28),
                             (2196, 29), (2199, 28)):
            with self.subTest(year=year):
                self.assertTrue(is_taken(date(year, 2, 28)))
                self.assertEqual(is_taken(date(year, 2, 29)), length == 29)
                self.assertFalse(is_taken(date(year, 2, 30)))

    def test_other_numbers(self):
        for number in (0, 1, 1900, 65536, date(2001, 1, 32), date(2001, 1, 256), date(2001, 1, 257),
                       date(2001, 1, 65535), TOP):
            with self.subTest(number=number):
                self.assertFalse(is_taken(number))

    def test_every_number_with_a_year_near_and_any_month_and_day(self):
        for year in (1899, 1900, 2000, 2100, 2199, 2200):
            for month in range(16):
                for day in range(40):
                    try:
                        datetime.date(year, month, day)
                        expected = 1900 <= year <= 2199
                    except ValueError:
                        expected = False
                    self.assertEqual(is_date(date(year, month, day)), expected, (year, month, day))


class TheOrderOfDates(unittest.TestCase):
    def test_day_behind_is_one_more(self):
        day = datetime.date(1900, 1, 1)
        first = day_number(date(1900, 1, 1))
        self.assertGreater(first, 0)
        for passed in range((datetime.date(2199, 12, 31) - day).days + 1):
            number = date(day.year, day.month, day.day)
            self.assertTrue(is_date(number), day)
            self.assertEqual(day_number(number), first + passed, day)
            day += datetime.timedelta(days=1)
        self.assertEqual(day, datetime.date(2200, 1, 1))

    def test_one_day_back_is_refused_and_one_day_on_is_not(self):
        neighbours = (
            (date(2001, 5, 9), date(2001, 5, 10)),
            (date(2000, 2, 28), date(2000, 2, 29)),
            (date(2000, 2, 29), date(2000, 3, 1)),
            (date(1900, 2, 28), date(1900, 3, 1)),
            (date(2100, 2, 28), date(2100, 3, 1)),
            (date(2004, 4, 30), date(2004, 5, 1)),
            (date(1999, 12, 31), date(2000, 1, 1)),
            (date(2199, 12, 30), date(2199, 12, 31)),
            (date(1900, 1, 1), date(1900, 1, 2)),
        )
        for before, behind in neighbours:
            with self.subTest(before=before, behind=behind):
                self.assertEqual(ask(start(1), part(0, before), part(0, behind)), [0, 0, 1])
                self.assertEqual(ask(start(1), part(0, behind), part(0, before)), [0, 0, -13])

    def test_order_goes_by_year_then_month_then_day(self):
        days = (date(1900, 12, 31), date(1901, 1, 30), date(1901, 2, 3), date(1901, 2, 4), date(2026, 1, 1))
        for place, early in enumerate(days):
            for late in days[place + 1:]:
                with self.subTest(early=early, late=late):
                    self.assertEqual(ask(start(1), part(0, early), part(0, late)), [0, 0, 1])
                    self.assertEqual(ask(start(1), part(0, late), part(0, early)), [0, 0, -13])

    def test_same_date_again(self):
        self.assertEqual(ask(start(1), part(0, SOME_DAY), part(0, SOME_DAY), part(0, SOME_DAY)), [0, 0, 1, 2])


if __name__ == "__main__":
    unittest.main()
