"""The book: what is known of parts and aeroplanes, and the calls that change it."""

from flightbook.dates import day_number, is_date
from flightbook.fleet import TASKS, Part, Plane
from flightbook.refusals import BUSY, FULL, IN_NONE, INVALID, OUT_OF_STEP, TOO_EARLY, UNKNOWN

MOST_KINDS = 16
MOST_PARTS = 256
PLANES = 16
MOST_PARTS_IN_PLANE = 32


# Each call asks for its refusals in the order in which the document tells them, and changes nothing ahead of the last.
class Book:
    def __init__(self):
        self.kinds = []
        self.parts = []
        self.planes = []
        self.latest_day = 0

    def ft_start(self, kinds):
        if len(kinds) < 1 or len(kinds) > MOST_KINDS:
            return -INVALID
        self.kinds = kinds
        self.parts = []
        self.planes = [Plane() for number in range(PLANES)]
        # Day 0 is ahead of every date, so with it no date is too early.
        self.latest_day = 0
        return 0

    def ft_part(self, kind, date):
        if kind >= len(self.kinds) or not is_date(date):
            return -INVALID
        day = day_number(date)
        if day < self.latest_day:
            return -TOO_EARLY
        if len(self.parts) >= MOST_PARTS:
            return -FULL
        self.latest_day = day
        self.parts.append(Part(kind, day))
        return len(self.parts) - 1

    def ft_put(self, part, plane, flown):
        if plane >= PLANES:
            return -INVALID
        if part >= len(self.parts):
            return -UNKNOWN
        the_part = self.parts[part]
        the_plane = self.planes[plane]
        if the_part.plane is not None or the_plane.is_away():
            return -BUSY
        if flown != the_plane.flown:
            return -OUT_OF_STEP
        if len(self.parts_in(plane)) >= MOST_PARTS_IN_PLANE:
            return -FULL
        the_part.plane = plane
        return 0

    def ft_take(self, part, flown):
        if part >= len(self.parts):
            return -UNKNOWN
        the_part = self.parts[part]
        if the_part.plane is None:
            return -IN_NONE
        the_plane = self.planes[the_part.plane]
        if the_plane.is_away():
            return -BUSY
        if flown != the_plane.flown:
            return -OUT_OF_STEP
        the_part.plane = None
        return 0

    def ft_did(self, part, task, date):
        if task >= TASKS:
            return -INVALID
        if part >= len(self.parts):
            return -UNKNOWN
        if not is_date(date):
            return -INVALID
        day = day_number(date)
        if day < self.latest_day:
            return -TOO_EARLY
        the_part = self.parts[part]
        if the_part.plane is not None and self.planes[the_part.plane].is_away():
            return -BUSY
        self.latest_day = day
        the_part.did_task(task, day)
        return 0

    def parts_in(self, plane):
        return [part for part in self.parts if part.plane == plane]
