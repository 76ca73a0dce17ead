"""Writes lists of calls for the tests, and reads their answers apart."""

from flightbook.book import Book
from flightbook.desk import answers, kinds_of

TOP = 4294967295


def date(year, month, day):
    return year + 4096 * month + 65536 * day


def kinds(how_many):
    return [number % 7 * 100 for number in range(12 * how_many)]


def start(how_many):
    return start_with(kinds(how_many))


def start_with(numbers):
    return [0, len(numbers)] + numbers


def part(kind, day):
    return [1, kind, day]


def put(number, plane, flown=0):
    return [2, number, plane, flown]


def take(number, flown=0):
    return [3, number, flown]


def did(number, task, day):
    return [4, number, task, day]


def joined(calls):
    line = []
    for call in calls:
        line.extend(call)
    return line


def apart(numbers):
    found = []
    place = 0
    while place < len(numbers):
        end = place + 1 + numbers[place]
        found.append(numbers[place + 1:end])
        place = end
    return found


def ask(*calls):
    """Gives the first number of each call's answer, for calls that answer one number alone."""
    told = apart(answers(joined(calls)))
    for answer in told:
        if len(answer) != 1:
            raise AssertionError(f"not one number: {answer}")
    if len(told) != len(calls):
        raise AssertionError(f"{len(calls)} calls, {len(told)} answers")
    return [answer[0] for answer in told]


def book_with_parts(how_many, day):
    """A book itself, for what no call of a list brings about yet, such as an aeroplane that is away."""
    book = Book()
    book.ft_start(kinds_of(kinds(1)))
    for number in range(how_many):
        book.ft_part(0, day)
    return book
