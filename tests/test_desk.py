import unittest

from flightbook.desk import answers
from tests.lines import date, did, joined, kinds, part, put, start, take

DAY = date(2026, 11, 19)


class Unchanging(list):
    """A list that can be read alone, to find what would change it even for a while."""

    def refuse(self, *given, **named):
        raise AssertionError("the list handed in was changed")

    append = clear = extend = insert = pop = remove = reverse = sort = refuse
    __setitem__ = __delitem__ = __iadd__ = __imul__ = refuse


class TheInterface(unittest.TestCase):
    def test_one_call(self):
        self.assertEqual(answers([0, 12] + [0] * 12), [1, 0])
        self.assertEqual(answers([0, 0]), [1, -22])

    def test_numbers_written_out(self):
        calls = [
            0, 24] + [60, 0, 0, 0, 10, 0, 0, 0, 365, 0, 0, 0] * 2 + [
            1, 1, 2026 + 4096 * 11 + 65536 * 19,
            2, 0, 15, 0,
            4, 0, 3, 2026 + 4096 * 11 + 65536 * 20,
            1, 2, 2026 + 4096 * 11 + 65536 * 20,
            3, 0, 0,
            3, 0, 0]
        self.assertEqual(answers(calls), [1, 0, 1, 0, 1, 0, 1, 0, 1, -22, 1, 0, 1, -11])

    def test_a_refused_start_is_read_whole(self):
        self.assertEqual(answers([0, 216] + [1] * 216 + start(1) + [0, 0] + part(0, DAY)), [1, -22, 1, 0, 1, -22, 1, 0])

    def test_a_count_stands_ahead_of_each_answer(self):
        calls = joined([start(1), part(0, DAY), part(0, DAY), put(1, 0), did(0, 0, DAY), take(0), part(1, DAY)])
        self.assertEqual(answers(calls), [1, 0, 1, 0, 1, 1, 1, 0, 1, 0, 1, -11, 1, -22])

    def test_a_thousand_calls(self):
        calls = joined([start(1), part(0, DAY)] + [did(0, number % 4, DAY) for number in range(998)])
        self.assertEqual(answers(calls), [1, 0] * 1000)

    def test_a_thousand_starts(self):
        self.assertEqual(answers(start(1) + [0, 0] * 999), [1, 0] + [1, -22] * 999)

    def test_the_list_handed_in_stays_as_it_was(self):
        calls = joined([start(16), part(15, DAY), put(0, 3), did(0, 2, DAY), take(0), start(17), start(2)])
        before = list(calls)
        answers(calls)
        self.assertEqual(calls, before)
        self.assertEqual(answers(Unchanging(calls)), answers(calls))

    def test_the_same_answers_when_asked_again(self):
        calls = joined([start(2), part(1, DAY), put(0, 3), did(0, 2, DAY), part(0, date(1900, 1, 1)), take(0)])
        first = answers(calls)
        answers(joined([start(1), part(0, date(2199, 12, 31)), put(0, 3)]))
        self.assertEqual(answers(calls), first)
        self.assertEqual(first, [1, 0, 1, 0, 1, 0, 1, 0, 1, -13, 1, 0])

    def test_nothing_is_kept_in_what_was_answered(self):
        calls = start(1)
        told = answers(calls)
        told.append(7)
        self.assertEqual(answers(calls), [1, 0])

    def test_whole_numbers_are_given_back(self):
        told = answers(joined([start(1), part(0, DAY), put(0, 0), take(0), take(0), did(0, 0, DAY)]))
        self.assertIs(type(told), list)
        for number in told:
            self.assertIs(type(number), int)

    def test_kinds_may_come_again_in_one_list(self):
        line = [0, 24] + kinds(2)
        self.assertEqual(answers(line + line), [1, 0, 1, 0])


if __name__ == "__main__":
    unittest.main()
