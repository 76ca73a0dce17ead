"""What the book is about: kinds of parts, parts, and aeroplanes."""

TASKS = 4

# When so many flights were flown since one, it is no longer held to the minutes that it was told with.
FLIGHTS_UNTIL_FORGOTTEN = 64


# Limits of the tasks, in their order; a 0 stands for no limit.
class Kind:
    def __init__(self, minutes, landings, days):
        self.minutes = minutes
        self.landings = landings
        self.days = days

    def limits_of(self, task):
        return (self.minutes[task], self.landings[task], self.days[task])


class Part:
    def __init__(self, kind, day):
        self.kind = kind
        self.plane = None
        self.minutes = 0
        self.landings = 0
        self.minutes_since = [0] * TASKS
        self.landings_since = [0] * TASKS
        # A part that comes has to count as looked at, or a limit of days would have no day to begin on.
        self.done_on = [day] * TASKS

    # In the order of a kind's limits, so that the two can be held side by side.
    def since(self, task, day):
        return (self.minutes_since[task], self.landings_since[task], day - self.done_on[task])

    def since_with_flight(self, task, day, minutes):
        return (self.minutes_since[task] + minutes, self.landings_since[task] + 1, day - self.done_on[task])

    def did_task(self, task, day):
        self.minutes_since[task] = 0
        self.landings_since[task] = 0
        self.done_on[task] = day

    def fly(self, minutes):
        self.minutes += minutes
        self.landings += 1
        for task in range(TASKS):
            self.minutes_since[task] += minutes
            self.landings_since[task] += 1


class Plane:
    def __init__(self):
        # The minutes of each flight that was flown, by the flight's number.
        self.flights = []
        # No flight is let go for 0 minutes, so 0 is free to say that the aeroplane is not away.
        self.let_go_for = 0

    def is_away(self):
        return self.let_go_for > 0

    def flown(self):
        return len(self.flights)

    def may_be_told_again(self, number, minutes):
        flown_since = self.flown() - 1 - number
        return flown_since >= FLIGHTS_UNTIL_FORGOTTEN or self.flights[number] == minutes

    def come_back(self, minutes):
        self.flights.append(minutes)
        self.let_go_for = 0
