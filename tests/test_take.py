import unittest

from tests.lines import TOP, ask, book_with_parts, date, part, put, start, take

DAY = date(2026, 11, 19)


def book_with_part_in(plane):
    book = book_with_parts(1, DAY)
    book.ft_put(0, plane, 0)
    return book


class APartIsTakenOut(unittest.TestCase):
    def test_it_is_in_none_then(self):
        self.assertEqual(
            ask(start(1), part(0, DAY), put(0, 15), take(0), take(0), put(0, 0), take(0)),
            [0, 0, 0, 0, -11, 0, 0])

    def test_others_stay(self):
        self.assertEqual(
            ask(start(1), part(0, DAY), part(0, DAY), put(0, 3), put(1, 3), take(0), put(1, 4), take(1)),
            [0, 0, 1, 0, 0, 0, -16, 0])

    def test_as_many_flights_as_that_one_has_flown(self):
        book = book_with_part_in(4)
        book.planes[4].flown = 7
        self.assertEqual(book.ft_take(0, 0), -71)
        self.assertEqual(book.ft_take(0, 6), -71)
        self.assertEqual(book.ft_take(0, 8), -71)
        self.assertEqual(book.ft_take(0, 7), 0)
        self.assertIsNone(book.parts[0].plane)

    def test_what_it_has_flown_stays_with_it(self):
        book = book_with_part_in(4)
        book.parts[0].minutes = 90
        book.parts[0].minutes_since[2] = 30
        book.ft_take(0, 0)
        book.ft_put(0, 5, 0)
        self.assertEqual(book.parts[0].minutes, 90)
        self.assertEqual(book.parts[0].minutes_since, [0, 0, 30, 0])


class APartIsNotTakenOut(unittest.TestCase):
    def test_no_such_part(self):
        for number in (1, 255, 256, TOP):
            with self.subTest(number=number):
                self.assertEqual(ask(start(1), part(0, DAY), put(0, 0), take(number)), [0, 0, 0, -2])

    def test_in_no_aeroplane(self):
        self.assertEqual(ask(start(1), part(0, DAY), take(0)), [0, 0, -11])

    def test_that_one_is_away(self):
        book = book_with_part_in(4)
        book.planes[4].let_go_for = 1
        self.assertEqual(book.ft_take(0, 0), -16)
        self.assertEqual(book.parts[0].plane, 4)

    def test_another_one_away_is_no_matter(self):
        book = book_with_part_in(4)
        book.planes[5].let_go_for = 60
        self.assertEqual(book.ft_take(0, 0), 0)

    def test_another_number_of_flights(self):
        for flown in (1, 2, TOP):
            with self.subTest(flown=flown):
                self.assertEqual(ask(start(1), part(0, DAY), put(0, 0), take(0, flown), take(0)), [0, 0, 0, -71, 0])

    def test_no_such_part_ahead_of_another_number_of_flights(self):
        self.assertEqual(ask(start(1), take(0, 1)), [0, -2])

    def test_in_no_aeroplane_ahead_of_another_number_of_flights(self):
        self.assertEqual(ask(start(1), part(0, DAY), take(0, 1)), [0, 0, -11])

    def test_away_ahead_of_another_number_of_flights(self):
        book = book_with_part_in(4)
        book.planes[4].let_go_for = 60
        self.assertEqual(book.ft_take(0, 1), -16)

    def test_refused_changes_nothing(self):
        self.assertEqual(
            ask(start(1), part(0, DAY), put(0, 0), take(0, 1), take(1), put(0, 1), take(0), take(0, 1), put(0, 1)),
            [0, 0, 0, -71, -2, -16, 0, -11, 0])


if __name__ == "__main__":
    unittest.main()
