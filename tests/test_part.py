import unittest

from tests.lines import NO_DATE, TOP, ask, date, did, joined, left, limits, of, part, put, start, start_with

EARLY = date(2026, 11, 18)
MIDDLE = date(2026, 11, 19)
LATE = date(2026, 11, 20)


class APartComes(unittest.TestCase):
    def test_numbers_go_up_from_0(self):
        self.assertEqual(
            ask(start(3), part(2, EARLY), part(0, EARLY), part(1, MIDDLE), part(2, LATE)),
            [0, 0, 1, 2, 3])

    def test_first_and_last_kind(self):
        self.assertEqual(ask(start(1), part(0, EARLY), part(1, EARLY)), [0, 0, -22])
        self.assertEqual(ask(start(16), part(0, EARLY), part(15, EARLY), part(16, EARLY)), [0, 0, 1, -22])

    def test_it_is_in_no_aeroplane(self):
        self.assertEqual(ask(start(1), part(0, EARLY), [3, 0, 0], put(0, 0)), [0, 0, -11, 0])

    def test_what_it_has_at_first(self):
        self.assertEqual(ask(start(2), part(1, MIDDLE), of(0)), [0, 0, [0, 1, 255, 0, 0]])

    def test_each_task_counts_as_done_on_the_date_on_which_it_came(self):
        for task in range(4):
            row = [500 if place == task else 0 for place in range(4)]
            kinds = joined([limits(), limits(row, row, row)])
            with self.subTest(task=task):
                self.assertEqual(
                    ask(start_with(kinds), part(0, EARLY), part(1, MIDDLE), put(1, 9), left(9, MIDDLE), left(9, LATE)),
                    [0, 0, 1, 0, [1, 500, 500, 500], [1, 500, 500, 499]])

    def test_256_parts_and_no_more(self):
        told = ask(start(1), *[part(0, EARLY) for number in range(258)])
        self.assertEqual(told, [0] + list(range(256)) + [-28, -28])

    def test_last_part_can_be_used(self):
        coming = [part(0, EARLY) for number in range(256)]
        told = ask(start(1), *coming, put(255, 15), [3, 255, 0], did(255, 3, EARLY), put(256, 0))
        self.assertEqual(told[257:], [0, 0, 0, -2])


class APartIsRefused(unittest.TestCase):
    def test_no_such_kind(self):
        for kind in (2, 16, 255, 256, 65536, TOP):
            with self.subTest(kind=kind):
                self.assertEqual(ask(start(2), part(kind, EARLY)), [0, -22])

    def test_no_date(self):
        for number in (0, NO_DATE, TOP):
            with self.subTest(number=number):
                self.assertEqual(ask(start(2), part(0, number)), [0, -22])

    def test_before_one_that_was_told(self):
        self.assertEqual(
            ask(start(1), part(0, MIDDLE), part(0, EARLY), part(0, MIDDLE)),
            [0, 0, -13, 1])

    def test_date_told_by_a_task_counts(self):
        self.assertEqual(
            ask(start(1), part(0, EARLY), did(0, 0, LATE), part(0, MIDDLE), part(0, LATE)),
            [0, 0, 0, -13, 1])

    def test_no_such_kind_ahead_of_too_early(self):
        self.assertEqual(ask(start(1), part(0, LATE), part(1, EARLY)), [0, 0, -22])

    def test_invalid_and_too_early_ahead_of_full(self):
        told = ask(start(1), *[part(0, MIDDLE) for number in range(256)],
                   part(1, MIDDLE), part(0, NO_DATE), part(0, EARLY), part(0, MIDDLE))
        self.assertEqual(told[257:], [-22, -22, -13, -28])

    def test_refused_tells_no_date_and_takes_no_number(self):
        self.assertEqual(
            ask(start(1), part(0, EARLY), part(1, LATE), part(0, NO_DATE), part(0, MIDDLE), part(0, MIDDLE)),
            [0, 0, -22, -22, 1, 2])
        self.assertEqual(ask(start(1), part(1, LATE), part(0, EARLY)), [0, -22, 0])

    def test_refused_when_full_tells_no_date(self):
        told = ask(start(1), *[part(0, EARLY) for number in range(256)], part(0, LATE), did(0, 0, MIDDLE))
        self.assertEqual(told[257:], [-28, 0])

    def test_refused_as_too_early_leaves_the_told_date(self):
        self.assertEqual(
            ask(start(1), part(0, LATE), part(0, EARLY), part(0, MIDDLE), part(0, LATE)),
            [0, 0, -13, -13, 1])


if __name__ == "__main__":
    unittest.main()
