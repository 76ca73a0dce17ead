"""The limits of tasks: which of them is passed, and how much is left of them."""

UNLIMITED = 4294967295


# What a limit is of is told by its place: 0 for minutes, 1 for landings, 2 for days. A limit of 0 is no limit.
def what_is_passed(limits, since):
    for what, limit in enumerate(limits):
        if limit > 0 and since[what] > limit:
            return what
    return None


def left_of(limit, since):
    if limit == 0:
        return UNLIMITED
    # A flight that took longer than it was let go for may have gone past the limit.
    return max(limit - since, 0)


def what_is_left(limits, since):
    return [left_of(limit, since[what]) for what, limit in enumerate(limits)]


def least_of_each(rows):
    least = [UNLIMITED, UNLIMITED, UNLIMITED]
    for row in rows:
        least = [min(number, row[what]) for what, number in enumerate(least)]
    return least
