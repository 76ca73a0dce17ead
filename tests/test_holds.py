"""What holds over the whole: long lists of calls, held against a telling of the document that only keeps a log."""

import datetime
import random
import unittest

from flightbook.desk import answers
from tests.lines import (
    NO_DATE, TOP, apart, bars, date, did, flew, go, joined, left, limits, of, part, put, start_with, take)


def told(day):
    return date(day.year, day.month, day.day)


def day_told(number):
    try:
        day = datetime.date(number % 4096, number // 4096 % 16, number // 65536)
    except (ValueError, OverflowError):
        return None
    return day if 1900 <= day.year <= 2199 else None


class Log:
    """Keeps what was done, in order, and counts it all anew whenever something is asked."""

    def __init__(self):
        self.start(())

    def start(self, kinds):
        self.kinds = kinds
        self.log = []
        self.came = []
        self.inside = {}
        self.away = {}
        self.latest = datetime.date(1, 1, 1)

    def flown(self, plane):
        return [entry[2] for entry in self.log if entry[0] == "flight" and entry[1] == plane]

    def total(self, number):
        minutes = [entry[2] for entry in self.log if entry[0] == "flight" and number in entry[3]]
        return [sum(minutes), len(minutes)]

    def since(self, number, task, day):
        minutes, landings, done = 0, 0, None
        for entry in self.log:
            if entry[0] == "flight" and number in entry[3]:
                minutes, landings = minutes + entry[2], landings + 1
            elif entry[0] == "done" and entry[1] == number and entry[2] == task:
                minutes, landings, done = 0, 0, entry[3]
        return [minutes, landings, (day - done).days]

    def limits(self, number, task):
        kind = self.kinds[self.came[number]]
        return [kind[task], kind[4 + task], kind[8 + task]]

    def held(self, plane):
        return sorted(number for number in self.inside if self.inside[number] == plane)

    def in_the_way(self, plane, day, minutes):
        found = []
        for number in self.held(plane):
            for task in range(4):
                after = [a + b for a, b in zip(self.since(number, task, day), (minutes, 1, 0))]
                for what, limit in enumerate(self.limits(number, task)):
                    if limit and after[what] > limit:
                        found.append([number, task, what])
        return found

    def date_refused(self, number):
        if day_told(number) is None:
            return [-22]
        return [-13] if day_told(number) < self.latest else None

    def tell(self, call):
        tellings = (self.ft_start, self.ft_part, self.ft_put, self.ft_take, self.ft_did, self.ft_go, self.ft_bars,
                    self.ft_flew, self.ft_left, self.ft_of)
        return tellings[call[0]](*call[1:])

    def ft_start(self, length, *numbers):
        if not 1 <= length // 12 <= 16:
            return [-22]
        self.start([numbers[begin:begin + 12] for begin in range(0, length, 12)])
        return [0]

    def ft_part(self, kind, when):
        refused = [-22] if kind >= len(self.kinds) else self.date_refused(when)
        if refused:
            return refused
        if len(self.came) == 256:
            return [-28]
        self.latest = day_told(when)
        self.log += [("done", len(self.came), task, self.latest) for task in range(4)]
        self.came.append(kind)
        return [len(self.came) - 1]

    def ft_put(self, number, plane, flown):
        for refused, answer in ((plane > 15, -22), (number >= len(self.came), -2),
                                (number in self.inside or plane in self.away, -16),
                                (flown != len(self.flown(plane)), -71), (len(self.held(plane)) == 32, -28)):
            if refused:
                return [answer]
        self.inside[number] = plane
        return [0]

    def ft_take(self, number, flown):
        plane = self.inside.get(number)
        for refused, answer in ((number >= len(self.came), -2), (plane is None, -11), (plane in self.away, -16),
                                (flown != len(self.flown(plane)), -71)):
            if refused:
                return [answer]
        self.inside.pop(number)
        return [0]

    def ft_did(self, number, task, when):
        if task > 3:
            return [-22]
        refused = [-2] if number >= len(self.came) else self.date_refused(when)
        if refused:
            return refused
        if self.inside.get(number) in self.away:
            return [-16]
        self.latest = day_told(when)
        self.log.append(("done", number, task, self.latest))
        return [0]

    def flight_refused(self, plane, when, minutes):
        return self.date_refused(when) if plane < 16 and 0 < minutes < 1441 else [-22]

    def ft_go(self, plane, when, minutes):
        refused = self.flight_refused(plane, when, minutes)
        if refused:
            return refused
        if plane in self.away:
            return [-16]
        if self.in_the_way(plane, day_told(when), minutes):
            return [-33]
        self.latest = day_told(when)
        self.away[plane] = minutes
        return [len(self.flown(plane))]

    def ft_bars(self, plane, when, minutes):
        refused = self.flight_refused(plane, when, minutes)
        if refused:
            return refused
        found = self.in_the_way(plane, day_told(when), minutes)
        return [0] + min(found) if found else [-2]

    def ft_flew(self, plane, number, minutes):
        if plane > 15 or not 0 < minutes < 65536:
            return [-22]
        flown = self.flown(plane)
        if number < len(flown):
            return [0] if flown[number] == minutes or len(flown[number + 1:]) >= 64 else [-17]
        if plane not in self.away or number != len(flown):
            return [-2]
        self.log.append(("flight", plane, minutes, self.held(plane)))
        return [1 if self.away.pop(plane) >= minutes else 2]

    def ft_left(self, plane, when):
        refused = [-22] if plane > 15 else self.date_refused(when)
        if refused:
            return refused
        least = []
        for what in range(3):
            found = [TOP]
            for number in self.held(plane):
                for task in range(4):
                    limit = self.limits(number, task)[what]
                    if limit:
                        found.append(max(0, limit - self.since(number, task, day_told(when))[what]))
            least.append(min(found))
        return [len(self.held(plane))] + least

    def ft_of(self, number):
        if number >= len(self.came):
            return [-2]
        return [0, self.came[number], self.inside.get(number, 255)] + self.total(number)

    def past_a_limit(self):
        """Whether a part has more minutes or landings since a task than its limit."""
        for number in range(len(self.came)):
            for task in range(4):
                since, most = self.since(number, task, self.latest), self.limits(number, task)
                if any(0 < limit < count for limit, count in list(zip(most, since))[:2]):
                    return True
        return False


class Draw:
    """Draws calls most of which can be taken, and now and then one that is to be refused."""

    def __init__(self, seed, overlong, planes):
        self.dice = random.Random(seed)
        self.log = Log()
        self.overlong = overlong
        self.planes = planes

    def one_of(self, *choices):
        return self.dice.choice(choices)

    def rarely(self, other, usual):
        return other if self.dice.random() < 0.04 else usual

    def kinds(self):
        numbers = []
        for count in range(self.one_of(1, 2, 3, 16)):
            rows = [[self.one_of(0, 0, step, 3 * step, 10 * step, TOP) for task in range(4)] for step in (90, 3, 20)]
            numbers += limits(*rows)
        return numbers

    def when(self):
        later = self.log.latest + datetime.timedelta(days=self.one_of(0, 0, 0, 0, 1, 1, 2, 7))
        if later.year > 2100:
            later = datetime.date(2100, 1, 1)
        if later.year < 1900:
            later = datetime.date(*self.one_of((1900, 2, 27), (1999, 12, 30), (2026, 11, 19)))
        earlier = max(later, datetime.date(1900, 1, 2)) - datetime.timedelta(days=self.one_of(1, 2, 400))
        return self.rarely(self.one_of(NO_DATE, told(max(earlier, datetime.date(1900, 1, 1)))), told(later))

    def plane(self):
        return self.rarely(self.one_of(15, 16, TOP), self.dice.randrange(self.planes))

    def part(self):
        return self.rarely(self.one_of(len(self.log.came), 255, TOP), self.dice.randrange(max(1, len(self.log.came))))

    def flown(self, plane):
        flown = len(self.log.flown(plane))
        return self.rarely(self.one_of(flown + 1, max(0, flown - 1), TOP), flown)

    def minutes(self):
        return self.rarely(self.one_of(0, 1440, 1441, TOP), self.dice.randint(1, 90))

    def flew(self):
        plane = self.dice.choice(sorted(self.log.away) or [0])
        flown = self.log.flown(plane)
        if flown and self.dice.random() < 0.2:
            number = self.dice.randrange(len(flown))
            return flew(plane, number, self.one_of(flown[number], flown[number], flown[number] + 1))
        most = self.log.away.get(plane, 60)
        minutes = self.one_of(most, most, 1, max(1, most - 1), most + self.one_of(1, 500) if self.overlong else most)
        return flew(plane, self.flown(plane), self.rarely(self.one_of(0, 65536), minutes))

    def call(self):
        roll = self.dice.random()
        if roll < 0.003:
            return start_with(self.one_of([], self.kinds(), [1] * 204))
        if roll < 0.06:
            return part(self.rarely(16, self.dice.randrange(len(self.log.kinds))), self.when())
        if roll < 0.16:
            plane = self.plane()
            return put(self.part(), plane, self.flown(plane))
        if roll < 0.21:
            number = self.dice.choice(sorted(self.log.inside)) if self.log.inside else self.part()
            return take(number, self.flown(self.log.inside.get(number)))
        if roll < 0.33:
            return did(self.part(), self.rarely(self.one_of(4, TOP), self.dice.randrange(4)), self.when())
        if roll < 0.57:
            return go(self.plane(), self.when(), self.minutes())
        if roll < 0.63:
            return bars(self.plane(), self.when(), self.minutes())
        if roll < 0.87:
            return self.flew()
        return left(self.plane(), self.when()) if roll < 0.94 else of(self.part())

    def calls(self, how_many, each=lambda call, answer: None):
        """The calls and what the log answers; behind every call, each is handed the call and its answer."""
        calls, expected = [start_with(self.kinds())], []
        while True:
            expected.append(self.log.tell(calls[-1]))
            each(calls[-1], expected[-1])
            if len(calls) == how_many:
                return calls, expected
            calls.append(self.call())


class LongLists(unittest.TestCase):
    def hold(self, seed, overlong, planes, how_many):
        calls, expected = Draw(seed, overlong, planes).calls(how_many)
        line = joined(calls)
        self.assertLessEqual(len(line), 30000)
        for place, (call, answer, found) in enumerate(zip(calls, expected, apart(answers(line)), strict=True)):
            self.assertEqual(found, answer, (seed, place, call))
        return calls, expected

    def test_many_short_lists(self):
        for seed in range(300):
            self.hold(seed, seed % 2 == 0, 1 + seed % 3, 60)

    def test_lists_of_a_thousand_calls(self):
        for seed in range(1000, 1006):
            self.hold(seed, seed % 2 == 0, (1, 2, 16)[seed % 3], 1000)

    def test_every_answer_is_among_those_that_were_held(self):
        seen = set()
        for seed in range(1000, 1006):
            calls, expected = self.hold(seed, True, 2, 600)
            seen |= {(call[0], min(answer[0], 1)) for call, answer in zip(calls, expected)}
        for call, refusals in ((0, (-22,)), (1, (-22, -13)), (2, (-22, -2, -16, -71)), (3, (-2, -11, -16, -71)),
                               (4, (-22, -2, -13, -16)), (5, (-22, -13, -16, -33)), (6, (-22, -13, -2)),
                               (7, (-22, -17, -2)), (8, (-22, -13)), (9, (-2,))):
            for refusal in refusals:
                self.assertIn((call, refusal), seen)
        for call in range(10):
            self.assertTrue({(call, 0), (call, 1)} & seen, call)


class NeverPastALimit(unittest.TestCase):
    def test_as_long_as_no_flight_took_longer(self):
        for seed in range(40):
            draw = Draw(seed, False, 2)

            def each(call, answer):
                self.assertNotEqual((call[0], answer), (7, [2]))
                if call[0] == 7:
                    self.assertFalse(draw.log.past_a_limit(), seed)

            calls, expected = draw.calls(150, each)
            self.assertEqual(apart(answers(joined(calls))), expected)


if __name__ == "__main__":
    unittest.main()
