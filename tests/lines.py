"""Writes lists of calls for the tests, and reads their answers apart."""

import datetime

from flightbook.desk import answers

TOP = 4294967295


def date(year, month, day):
    return year + 4096 * month + 65536 * day


NO_DATE = date(2026, 11, 31)


def day_of(days):
    """The date that is so many days behind the 19th of November 2026."""
    there = datetime.date(2026, 11, 19) + datetime.timedelta(days=days)
    return date(there.year, there.month, there.day)


def limits(minutes=(0, 0, 0, 0), landings=(0, 0, 0, 0), days=(0, 0, 0, 0)):
    """The twelve numbers of one kind; without more said it has no limit."""
    return [*minutes, *landings, *days]


def kinds(how_many):
    return [number % 7 * 100 for number in range(12 * how_many)]


def start(how_many):
    return start_with(kinds(how_many))


def start_with(numbers):
    return [0, len(numbers)] + numbers


def part(kind, day):
    return [1, kind, day]


def put(number, plane, flown=0):
    return [2, number, plane, flown]


def take(number, flown=0):
    return [3, number, flown]


def did(number, task, day):
    return [4, number, task, day]


def go(plane, day, minutes):
    return [5, plane, day, minutes]


def bars(plane, day, minutes):
    return [6, plane, day, minutes]


def flew(plane, number, minutes):
    return [7, plane, number, minutes]


def left(plane, day):
    return [8, plane, day]


def of(number):
    return [9, number]


def flights(plane, first, how_many, day, minutes):
    """Calls that let flights go and tell them as flown, each with as many minutes as it was let go for."""
    calls = []
    for number in range(first, first + how_many):
        calls.extend([go(plane, day, minutes), flew(plane, number, minutes)])
    return calls


def joined(calls):
    line = []
    for call in calls:
        line.extend(call)
    return line


def apart(numbers):
    found = []
    place = 0
    while place < len(numbers):
        end = place + 1 + numbers[place]
        found.append(numbers[place + 1:end])
        place = end
    return found


def ask(*calls):
    """Gives each call's answer: the number itself where it is answered alone, else the list of numbers."""
    told = apart(answers(joined(calls)))
    if len(told) != len(calls):
        raise AssertionError(f"{len(calls)} calls, {len(told)} answers")
    return [answer[0] if len(answer) == 1 else answer for answer in told]


def ask_behind(before, *calls):
    """Gives the answers of the calls alone that come behind those before."""
    return ask(*before, *calls)[len(before):]


def in_plane(plane, day, *kinds_of_parts):
    """Calls that begin a book with these kinds, and put one part of each, numbered like its kind, into an aeroplane."""
    calls = [start_with(joined(kinds_of_parts))]
    calls.extend([part(number, day) for number in range(len(kinds_of_parts))])
    calls.extend([put(number, plane) for number in range(len(kinds_of_parts))])
    return calls
