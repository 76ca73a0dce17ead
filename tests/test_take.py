import unittest

from tests.lines import TOP, ask, ask_behind, date, flew, flights, go, in_plane, limits, of, part, put, start, take

DAY = date(2026, 11, 19)


# One part, in aeroplane 4.
WITH_PART_IN = in_plane(4, DAY, limits())


class APartIsTakenOut(unittest.TestCase):
    def test_it_is_in_none_then(self):
        self.assertEqual(
            ask(start(1), part(0, DAY), put(0, 15), take(0), take(0), put(0, 0), take(0)),
            [0, 0, 0, 0, -11, 0, 0])

    def test_others_stay(self):
        self.assertEqual(
            ask(start(1), part(0, DAY), part(0, DAY), put(0, 3), put(1, 3), take(0), put(1, 4), take(1)),
            [0, 0, 1, 0, 0, 0, -16, 0])

    def test_as_many_flights_as_that_one_has_flown(self):
        self.assertEqual(
            ask_behind(WITH_PART_IN + flights(4, 0, 7, DAY, 1),
                       take(0), take(0, 6), take(0, 8), take(0, TOP), of(0), take(0, 7), of(0)),
            [-71, -71, -71, -71, [0, 0, 4, 7, 7], 0, [0, 0, 255, 7, 7]])

    def test_what_it_has_flown_stays_with_it(self):
        self.assertEqual(
            ask_behind(WITH_PART_IN + flights(4, 0, 2, DAY, 45), take(0, 2), of(0), put(0, 5), of(0)),
            [0, [0, 0, 255, 90, 2], 0, [0, 0, 5, 90, 2]])


class APartIsNotTakenOut(unittest.TestCase):
    def test_no_such_part(self):
        for number in (1, 255, 256, TOP):
            with self.subTest(number=number):
                self.assertEqual(ask(start(1), part(0, DAY), put(0, 0), take(number)), [0, 0, 0, -2])

    def test_in_no_aeroplane(self):
        self.assertEqual(ask(start(1), part(0, DAY), take(0)), [0, 0, -11])

    def test_that_one_is_away(self):
        self.assertEqual(
            ask_behind(WITH_PART_IN, go(4, DAY, 1), take(0), of(0), flew(4, 0, 1), take(0, 1)),
            [0, -16, [0, 0, 4, 0, 0], 1, 0])

    def test_another_one_away_is_no_matter(self):
        self.assertEqual(ask_behind(WITH_PART_IN, go(5, DAY, 60), take(0)), [0, 0])

    def test_another_number_of_flights(self):
        for flown in (1, 2, TOP):
            with self.subTest(flown=flown):
                self.assertEqual(ask(start(1), part(0, DAY), put(0, 0), take(0, flown), take(0)), [0, 0, 0, -71, 0])

    def test_no_such_part_ahead_of_another_number_of_flights(self):
        self.assertEqual(ask(start(1), take(0, 1)), [0, -2])

    def test_in_no_aeroplane_ahead_of_another_number_of_flights(self):
        self.assertEqual(ask(start(1), part(0, DAY), take(0, 1)), [0, 0, -11])

    def test_away_ahead_of_another_number_of_flights(self):
        self.assertEqual(ask_behind(WITH_PART_IN, go(4, DAY, 60), take(0, 1)), [0, -16])

    def test_refused_changes_nothing(self):
        self.assertEqual(
            ask(start(1), part(0, DAY), put(0, 0), take(0, 1), take(1), put(0, 1), take(0), take(0, 1), put(0, 1)),
            [0, 0, 0, -71, -2, -16, 0, -11, 0])


if __name__ == "__main__":
    unittest.main()
