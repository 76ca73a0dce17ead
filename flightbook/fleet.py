"""What the book is about: kinds of parts, parts, and aeroplanes."""

TASKS = 4


# Limits of the tasks, in their order; a 0 stands for no limit.
class Kind:
    def __init__(self, minutes, landings, days):
        self.minutes = minutes
        self.landings = landings
        self.days = days


class Part:
    def __init__(self, kind, day):
        self.kind = kind
        self.plane = None
        self.minutes = 0
        self.landings = 0
        self.minutes_since = [0] * TASKS
        self.landings_since = [0] * TASKS
        # A part that comes has to count as looked at, or a limit of days would have no day to begin on.
        self.done_on = [day] * TASKS

    def did_task(self, task, day):
        self.minutes_since[task] = 0
        self.landings_since[task] = 0
        self.done_on[task] = day


class Plane:
    def __init__(self):
        self.flown = 0
        # No flight is let go for 0 minutes, so 0 is free to say that the aeroplane is not away.
        self.let_go_for = 0

    def is_away(self):
        return self.let_go_for > 0
