"""The desk: a list of calls is read here, and answered call by call."""

from flightbook.book import Book
from flightbook.fleet import TASKS, Kind

START = 0
PART = 1
PUT = 2
TAKE = 3
DID = 4
GO = 5
BARS = 6
FLEW = 7
LEFT = 8

# How many numbers stand behind the number of each call, ft_of last; of a start it is the length of its kinds.
CALL_LENGTHS = (1, 2, 3, 2, 3, 3, 3, 3, 2, 1)

KIND_LENGTH = 12


class Reader:
    def __init__(self, numbers):
        self.numbers = numbers
        self.place = 0

    def has_more(self):
        return self.place < len(self.numbers)

    def read_next(self):
        self.place += 1
        return self.numbers[self.place - 1]

    def read_row(self, length):
        self.place += length
        return self.numbers[self.place - length:self.place]


def kind_at(row, begin):
    landings = begin + TASKS
    days = landings + TASKS
    return Kind(row[begin:landings], row[landings:days], row[days:days + TASKS])


def kinds_of(row):
    return [kind_at(row, begin) for begin in range(0, len(row), KIND_LENGTH)]


def answer_call(book, reader):
    call = reader.read_next()
    row = reader.read_row(CALL_LENGTHS[call])
    if call == START:
        return [book.ft_start(kinds_of(reader.read_row(row[0])))]
    if call == PART:
        return [book.ft_part(row[0], row[1])]
    if call == PUT:
        return [book.ft_put(row[0], row[1], row[2])]
    if call == TAKE:
        return [book.ft_take(row[0], row[1])]
    if call == DID:
        return [book.ft_did(row[0], row[1], row[2])]
    if call == GO:
        return [book.ft_go(row[0], row[1], row[2])]
    if call == BARS:
        return book.ft_bars(row[0], row[1], row[2])
    if call == FLEW:
        return [book.ft_flew(row[0], row[1], row[2])]
    if call == LEFT:
        return book.ft_left(row[0], row[1])
    # No other call has a length above, so this one is ft_of.
    return book.ft_of(row[0])


def answers(calls):
    book = Book()
    reader = Reader(calls)
    told = []
    while reader.has_more():
        answer = answer_call(book, reader)
        told.append(len(answer))
        told.extend(answer)
    return told
