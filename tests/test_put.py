import unittest

from tests.lines import TOP, ask_behind, date, flew, flights, go, of, part, put, start, take

DAY = date(2026, 11, 19)


def with_parts(how_many):
    return [start(1)] + [part(0, DAY) for number in range(how_many)]


class APartIsPutIn(unittest.TestCase):
    def test_several_parts_in_several_aeroplanes(self):
        self.assertEqual(
            ask_behind(with_parts(4), put(0, 0), put(3, 15), put(1, 0), put(2, 7)),
            [0, 0, 0, 0])

    def test_put_again_into_another_after_it_was_taken(self):
        self.assertEqual(
            ask_behind(with_parts(1), put(0, 2), put(0, 3), take(0), put(0, 3), put(0, 2), take(0), put(0, 2)),
            [0, -16, 0, 0, -16, 0, 0])

    def test_it_is_in_just_that_aeroplane(self):
        self.assertEqual(
            ask_behind(with_parts(3), put(1, 4), of(0), of(1), of(2)),
            [0, [0, 0, 255, 0, 0], [0, 0, 4, 0, 0], [0, 0, 255, 0, 0]])

    def test_as_many_flights_as_that_one_has_flown(self):
        self.assertEqual(
            ask_behind(with_parts(1) + flights(4, 0, 7, DAY, 1),
                       put(0, 4), put(0, 4, 6), put(0, 4, 8), put(0, 4, TOP), of(0), put(0, 4, 7)),
            [-71, -71, -71, -71, [0, 0, 255, 0, 0], 0])

    def test_flights_of_another_are_no_matter(self):
        self.assertEqual(
            ask_behind(with_parts(2) + flights(4, 0, 3, DAY, 1), put(0, 5, 3), put(0, 5), put(1, 4, 3)),
            [-71, 0, 0])

    def test_32_parts_and_no_more(self):
        fill = [put(number, 9) for number in range(34)]
        self.assertEqual(ask_behind(with_parts(34), *fill), [0] * 32 + [-28, -28])

    def test_others_have_room_of_their_own(self):
        fill = [put(number, number // 32) for number in range(256)]
        self.assertEqual(
            ask_behind(with_parts(256), *fill, take(0), put(0, 7), put(0, 8), take(255), put(255, 0)),
            [0] * 256 + [0, -28, 0, 0, 0])

    def test_room_comes_back_when_a_part_is_taken(self):
        fill = [put(number, 0) for number in range(33)]
        self.assertEqual(
            ask_behind(with_parts(33), *fill, take(5), put(32, 0), put(5, 0)),
            [0] * 32 + [-28, 0, 0, -28])


class APartIsNotPutIn(unittest.TestCase):
    def test_no_such_aeroplane(self):
        for plane in (16, 17, 255, 256, TOP):
            with self.subTest(plane=plane):
                self.assertEqual(ask_behind(with_parts(1), put(0, plane), put(0, 15)), [-22, 0])

    def test_no_such_part(self):
        for number in (1, 255, 256, TOP):
            with self.subTest(number=number):
                self.assertEqual(ask_behind(with_parts(1), put(number, 0)), [-2])

    def test_it_is_in_an_aeroplane(self):
        self.assertEqual(
            ask_behind(with_parts(1), put(0, 0), put(0, 0), put(0, 1)),
            [0, -16, -16])

    def test_that_one_is_away(self):
        self.assertEqual(
            ask_behind(with_parts(2), go(4, DAY, 1), put(0, 4), of(0), put(0, 5), flew(4, 0, 1), put(1, 4, 1)),
            [0, -16, [0, 0, 255, 0, 0], 0, 1, 0])

    def test_another_number_of_flights(self):
        for flown in (1, 2, TOP):
            with self.subTest(flown=flown):
                self.assertEqual(ask_behind(with_parts(1), put(0, 0, flown), put(0, 0)), [-71, 0])

    def test_no_such_aeroplane_ahead_of_all_others(self):
        self.assertEqual(
            ask_behind(with_parts(1), put(1, 16), put(0, 0), put(0, 16), put(0, 16, 1)),
            [-22, 0, -22, -22])

    def test_no_such_part_ahead_of_those_that_follow(self):
        self.assertEqual(ask_behind(with_parts(1), go(4, DAY, 60), put(1, 4), put(1, 4, 1)), [0, -2, -2])
        self.assertEqual(ask_behind(with_parts(1), put(1, 0, 1)), [-2])

    def test_in_an_aeroplane_or_away_ahead_of_another_number_of_flights(self):
        self.assertEqual(ask_behind(with_parts(1), put(0, 0), put(0, 1, 1), put(0, 0, 1)), [0, -16, -16])
        self.assertEqual(ask_behind(with_parts(1), go(4, DAY, 60), put(0, 4, 1)), [0, -16])

    def test_all_others_ahead_of_full(self):
        fill = [put(number, 0) for number in range(32)]
        self.assertEqual(
            ask_behind(with_parts(33), *fill, put(33, 0), put(0, 0), put(32, 0, 1), put(32, 0)),
            [0] * 32 + [-2, -16, -71, -28])
        self.assertEqual(
            ask_behind(with_parts(33), *fill, go(0, DAY, 1), put(32, 0), flew(0, 0, 1), put(32, 0), put(32, 0, 1)),
            [0] * 32 + [0, -16, 1, -71, -28])

    def test_refused_changes_nothing(self):
        fill = [put(number, 0) for number in range(32)]
        self.assertEqual(
            ask_behind(with_parts(33), *fill, put(32, 16), put(32, 1, 1), put(32, 0), take(32), put(0, 1), take(0),
                        put(32, 0), put(0, 1)),
            [0] * 32 + [-22, -71, -28, -11, -16, 0, 0, 0])


if __name__ == "__main__":
    unittest.main()
