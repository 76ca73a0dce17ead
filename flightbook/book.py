"""The book: what is known of parts and aeroplanes, and the calls that change it or ask of it."""

from flightbook.dates import day_number, is_date
from flightbook.fleet import TASKS, Part, Plane
from flightbook.limits import least_of_each, what_is_left, what_is_passed
from flightbook.refusals import BARRED, BUSY, FULL, IN_NONE, INVALID, OUT_OF_STEP, TOLD_OTHERWISE, TOO_EARLY, UNKNOWN

MOST_KINDS = 16
MOST_PARTS = 256
PLANES = 16
MOST_PARTS_IN_PLANE = 32
MOST_MINUTES_LET_GO = 1440
MOST_MINUTES_FLOWN = 65535

# The number that stands for an aeroplane where a part is in none.
NO_PLANE = 255

# What ft_flew answers of a flight that is told for the first time.
AS_LET_GO = 1
LONGER = 2


# Each call asks for its refusals in the order in which the document tells them, and changes nothing ahead of the last.
# A call that answers more than its number gives back a list, all others the number alone.
class Book:
    def __init__(self):
        self.kinds = []
        self.parts = []
        self.planes = []
        self.latest_day = 0

    def ft_start(self, kinds):
        if len(kinds) < 1 or len(kinds) > MOST_KINDS:
            return -INVALID
        self.kinds = kinds
        self.parts = []
        self.planes = [Plane() for number in range(PLANES)]
        # Day 0 is ahead of every date, so with it no date is too early.
        self.latest_day = 0
        return 0

    def ft_part(self, kind, date):
        if kind >= len(self.kinds):
            return -INVALID
        refusal = self.refusal_of_date(date)
        if refusal < 0:
            return refusal
        if len(self.parts) >= MOST_PARTS:
            return -FULL
        self.latest_day = day_number(date)
        self.parts.append(Part(kind, self.latest_day))
        return len(self.parts) - 1

    def ft_put(self, part, plane, flown):
        if plane >= PLANES:
            return -INVALID
        if part >= len(self.parts):
            return -UNKNOWN
        the_part = self.parts[part]
        the_plane = self.planes[plane]
        if the_part.plane is not None or the_plane.is_away():
            return -BUSY
        if flown != the_plane.flown():
            return -OUT_OF_STEP
        if len(self.parts_in(plane)) >= MOST_PARTS_IN_PLANE:
            return -FULL
        the_part.plane = plane
        return 0

    def ft_take(self, part, flown):
        if part >= len(self.parts):
            return -UNKNOWN
        the_part = self.parts[part]
        if the_part.plane is None:
            return -IN_NONE
        the_plane = self.planes[the_part.plane]
        if the_plane.is_away():
            return -BUSY
        if flown != the_plane.flown():
            return -OUT_OF_STEP
        the_part.plane = None
        return 0

    def ft_did(self, part, task, date):
        if task >= TASKS:
            return -INVALID
        if part >= len(self.parts):
            return -UNKNOWN
        refusal = self.refusal_of_date(date)
        if refusal < 0:
            return refusal
        the_part = self.parts[part]
        if the_part.plane is not None and self.planes[the_part.plane].is_away():
            return -BUSY
        self.latest_day = day_number(date)
        the_part.did_task(task, self.latest_day)
        return 0

    def ft_go(self, plane, date, minutes):
        refusal = self.refusal_of_flight(plane, date, minutes)
        if refusal < 0:
            return refusal
        the_plane = self.planes[plane]
        if the_plane.is_away():
            return -BUSY
        day = day_number(date)
        if self.first_in_the_way(plane, day, minutes) is not None:
            return -BARRED
        self.latest_day = day
        the_plane.let_go_for = minutes
        return the_plane.flown() % 2 ** 31

    def ft_bars(self, plane, date, minutes):
        refusal = self.refusal_of_flight(plane, date, minutes)
        if refusal < 0:
            return [refusal]
        found = self.first_in_the_way(plane, day_number(date), minutes)
        if found is None:
            return [-UNKNOWN]
        return [0] + found

    def ft_flew(self, plane, number, minutes):
        if plane >= PLANES or minutes < 1 or minutes > MOST_MINUTES_FLOWN:
            return -INVALID
        the_plane = self.planes[plane]
        if number < the_plane.flown():
            if the_plane.may_be_told_again(number, minutes):
                return 0
            return -TOLD_OTHERWISE
        if number > the_plane.flown() or not the_plane.is_away():
            return -UNKNOWN
        answer = AS_LET_GO if minutes <= the_plane.let_go_for else LONGER
        the_plane.come_back(minutes)
        for part in self.parts_in(plane):
            part.fly(minutes)
        return answer

    def ft_left(self, plane, date):
        if plane >= PLANES:
            return [-INVALID]
        refusal = self.refusal_of_date(date)
        if refusal < 0:
            return [refusal]
        day = day_number(date)
        parts = self.parts_in(plane)
        rows = []
        for part in parts:
            kind = self.kinds[part.kind]
            rows.extend([what_is_left(kind.limits_of(task), part.since(task, day)) for task in range(TASKS)])
        return [len(parts)] + least_of_each(rows)

    def ft_of(self, part):
        if part >= len(self.parts):
            return [-UNKNOWN]
        the_part = self.parts[part]
        plane = NO_PLANE if the_part.plane is None else the_part.plane
        return [0, the_part.kind, plane, the_part.minutes, the_part.landings]

    def refusal_of_date(self, date):
        if not is_date(date):
            return -INVALID
        if day_number(date) < self.latest_day:
            return -TOO_EARLY
        return 0

    def refusal_of_flight(self, plane, date, minutes):
        if plane >= PLANES or minutes < 1 or minutes > MOST_MINUTES_LET_GO:
            return -INVALID
        return self.refusal_of_date(date)

    def parts_in(self, plane):
        return [part for part in self.parts if part.plane == plane]

    # The part, the task and what: of the first limit that such a flight is in the way of, or None where there is none.
    def first_in_the_way(self, plane, day, minutes):
        for number, part in enumerate(self.parts):
            if part.plane == plane:
                found = self.first_task_in_the_way(part, day, minutes)
                if found is not None:
                    return [number] + found
        return None

    def first_task_in_the_way(self, part, day, minutes):
        kind = self.kinds[part.kind]
        for task in range(TASKS):
            what = what_is_passed(kind.limits_of(task), part.since_with_flight(task, day, minutes))
            if what is not None:
                return [task, what]
        return None
