"""Dates that are told as one number: which numbers are a date, and the number of its day."""

FIRST_YEAR = 1900
LAST_YEAR = 2199
MONTHS = 12
FEBRUARY = 2
MONTH_LENGTHS = (31, 28, 31, 30, 31, 30, 31, 31, 30, 31, 30, 31)


def year_of(date):
    return date % 4096


def month_of(date):
    return date // 4096 % 16


def day_of_month(date):
    return date // 65536


def is_leap(year):
    return year % 4 == 0 and (year % 100 != 0 or year % 400 == 0)


def month_length(year, month):
    if month == FEBRUARY and is_leap(year):
        return 29
    return MONTH_LENGTHS[month - 1]


def is_date(date):
    year = year_of(date)
    month = month_of(date)
    if year < FIRST_YEAR or year > LAST_YEAR:
        return False
    if month < 1 or month > MONTHS:
        return False
    return 1 <= day_of_month(date) <= month_length(year, month)


# The day stands in a date's highest digits, so dates as they are told are not in order: days are compared instead.
def day_number(date):
    year = year_of(date)
    before = year - 1
    days = 365 * before + before // 4 - before // 100 + before // 400
    for month in range(1, month_of(date)):
        days += month_length(year, month)
    return days + day_of_month(date)
