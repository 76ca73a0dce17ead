import unittest

from flightbook.desk import answers
from tests.lines import (
    TOP, bars, date, did, flew, flights, go, in_plane, joined, kinds, left, limits, of, part, put, start, take)

DAY = date(2026, 11, 19)

# Each call several times, taken and refused.
EACH_CALL = joined(
    in_plane(3, DAY, limits(minutes=(100, 0, 0, 0)), limits(landings=(0, 0, 2, 0)))
    + [bars(3, DAY, 101), go(3, DAY, 101), left(3, DAY), bars(3, DAY, 100)] + flights(3, 0, 2, DAY, 40)
    + [bars(3, DAY, 20), go(3, DAY, 20), flew(3, 1, 40), flew(3, 0, 41), flew(3, 2, 20), did(1, 2, DAY), left(3, DAY)]
    + [of(0), of(1), of(2), take(0, 2), take(0, 2), put(0, 4), go(3, DAY, 90), go(4, DAY, 20), flew(4, 0, 21), of(0)]
    + [start(0), left(4, DAY), start(1), of(0), left(4, DAY), start(17)])
ANSWERED = [
    1, 0, 1, 0, 1, 1, 1, 0, 1, 0,
    4, 0, 0, 0, 0, 1, -33, 4, 2, 100, 2, TOP, 1, -2, 1, 0, 1, 1, 1, 1, 1, 1,
    4, 0, 1, 2, 1, 1, -33, 1, 0, 1, -17, 1, -2, 1, 0, 4, 2, 20, 2, TOP,
    5, 0, 0, 3, 80, 2, 5, 0, 1, 3, 80, 2, 1, -2, 1, 0, 1, -11, 1, 0, 1, 2, 1, 0, 1, 2, 5, 0, 0, 4, 101, 3,
    1, -22, 4, 1, 0, TOP, TOP, 1, 0, 1, -2, 4, 0, TOP, TOP, TOP, 1, -22]


class Unchanging(list):
    """A list that can be read alone, to find what would change it even for a while."""

    def refuse(self, *given, **named):
        raise AssertionError("the list handed in was changed")

    append = clear = extend = insert = pop = remove = reverse = sort = refuse
    __setitem__ = __delitem__ = __iadd__ = __imul__ = refuse


class TheInterface(unittest.TestCase):
    def test_one_call(self):
        self.assertEqual(answers([0, 12] + [0] * 12), [1, 0])
        self.assertEqual(answers([0, 0]), [1, -22])

    def test_numbers_written_out(self):
        calls = [
            0, 24] + [60, 0, 0, 0, 10, 0, 0, 0, 365, 0, 0, 0] * 2 + [
            1, 1, 2026 + 4096 * 11 + 65536 * 19,
            2, 0, 15, 0,
            4, 0, 3, 2026 + 4096 * 11 + 65536 * 20,
            1, 2, 2026 + 4096 * 11 + 65536 * 20,
            3, 0, 0,
            3, 0, 0]
        self.assertEqual(answers(calls), [1, 0, 1, 0, 1, 0, 1, 0, 1, -22, 1, 0, 1, -11])

    def test_numbers_of_flights_written_out(self):
        day = 2026 + 4096 * 11 + 65536 * 19
        calls = [
            0, 12, 100, 0, 0, 0, 0, 3, 0, 0, 0, 0, 365, 0,
            1, 0, day,
            2, 0, 15, 0,
            5, 15, day, 60,
            7, 15, 0, 50,
            6, 15, day, 51,
            6, 15, day, 50,
            8, 15, day + 65536,
            9, 0]
        self.assertEqual(
            answers(calls),
            [1, 0, 1, 0, 1, 0, 1, 0, 1, 1, 4, 0, 0, 0, 0, 1, -2, 4, 1, 50, 2, 364, 5, 0, 0, 15, 50, 1])

    def test_each_call_several_times(self):
        self.assertEqual(answers(EACH_CALL), ANSWERED)

    def test_a_refused_start_is_read_whole(self):
        self.assertEqual(answers([0, 216] + [1] * 216 + start(1) + [0, 0] + part(0, DAY)), [1, -22, 1, 0, 1, -22, 1, 0])

    def test_a_count_stands_ahead_of_each_answer(self):
        calls = joined([start(1), part(0, DAY), part(0, DAY), put(1, 0), did(0, 0, DAY), take(0), part(1, DAY)])
        self.assertEqual(answers(calls), [1, 0, 1, 0, 1, 1, 1, 0, 1, 0, 1, -11, 1, -22])

    def test_a_thousand_calls(self):
        calls = joined([start(1), part(0, DAY)] + [did(0, number % 4, DAY) for number in range(998)])
        self.assertEqual(answers(calls), [1, 0] * 1000)

    def test_a_thousand_calls_of_flights(self):
        calls = in_plane(0, DAY, limits([TOP] * 4, [TOP] * 4, [TOP] * 4)) + flights(0, 0, 498, DAY, 1440) + [of(0)]
        self.assertEqual(len(calls), 1000)
        expected = [1, 0, 1, 0, 1, 0]
        for number in range(498):
            expected += [1, number, 1, 1]
        self.assertEqual(answers(joined(calls)), expected + [5, 0, 0, 0, 498 * 1440, 498])

    def test_a_thousand_calls_that_ask_of_full_aeroplanes(self):
        numbers = range(256)
        calls = [start(1), *[part(0, DAY) for number in numbers], *[put(number, number // 32) for number in numbers]]
        for asked, answer in ((bars(7, DAY, 101), [4, 0, 224, 1, 0]), (left(7, DAY), [4, 32, 100, 400, 100]),
                              (of(255), [5, 0, 0, 7, 0, 0])):
            with self.subTest(asked=asked):
                told = answers(joined(calls + [asked] * (1000 - len(calls))))
                self.assertEqual(told[2 * len(calls):], answer * (1000 - len(calls)))

    def test_a_thousand_starts(self):
        self.assertEqual(answers(start(1) + [0, 0] * 999), [1, 0] + [1, -22] * 999)

    def test_the_list_handed_in_stays_as_it_was(self):
        for calls in (EACH_CALL, joined([start(16), part(15, DAY), put(0, 3), did(0, 2, DAY), take(0), start(17)])):
            before = list(calls)
            told = answers(calls)
            self.assertEqual(calls, before)
            self.assertEqual(answers(Unchanging(calls)), told)

    def test_the_same_answers_when_asked_again(self):
        for calls in ([start(1), part(0, date(2199, 12, 31)), put(0, 3), go(3, date(2199, 12, 31), 60)],
                      [start(2), part(1, date(1900, 1, 1)), flew(3, 0, 20), go(3, date(1900, 1, 1), 60)]):
            self.assertEqual(answers(EACH_CALL), ANSWERED)
            answers(joined(calls))
        self.assertEqual(answers(EACH_CALL), ANSWERED)

    def test_nothing_is_kept_in_what_was_answered(self):
        told = answers(EACH_CALL)
        told.clear()
        self.assertEqual(answers(EACH_CALL), ANSWERED)

    def test_whole_numbers_are_given_back(self):
        told = answers(EACH_CALL)
        self.assertIs(type(told), list)
        for number in told:
            self.assertIs(type(number), int)

    def test_kinds_may_come_again_in_one_list(self):
        line = [0, 24] + kinds(2)
        self.assertEqual(answers(line + line), [1, 0, 1, 0])


if __name__ == "__main__":
    unittest.main()
