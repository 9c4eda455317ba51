"""What the tests share: calls as they are written in a line, and answers taken apart."""

import datetime

from placeclocks.places import answers

LAST = 52595999
BEYOND = 52596000
EPOCH = datetime.datetime(2000, 1, 1)

# Summer as much of Europe keeps it: from the last Sunday of March to that of October, at 1:00.
EUROPE_BEGINS = [1, 1, 7, 3, 60]
EUROPE_ENDS = [1, 1, 7, 10, 60]
# Summer over the year's end: from the first Sunday of October to that of April.
SOUTH_BEGINS = [0, 1, 7, 10, 960]
SOUTH_ENDS = [0, 1, 7, 4, 960]


def place(offset):
    return [0, offset]


def decree(number, moment, offset):
    return [1, number, moment, offset]


def summer(number, moment, offset, more=60, begins=EUROPE_BEGINS, ends=EUROPE_ENDS):
    return [2, number, moment, offset, more, len(begins)] + begins + [len(ends)] + ends


def drop(number, moment):
    return [3, number, moment]


def offset(number, moment):
    return [4, number, moment]


def shows(number, moment):
    return [5, number, moment]


def moments(number, shown):
    return [6, number, shown]


def meant(number, shown):
    return [7, number, shown]


def change(number, moment):
    return [8, number, moment]


def keep(number, shown):
    return [9, number, shown]


def when(kept):
    return [10, kept]


def there(kept, number):
    return [11, kept, number]


def ahead(moment):
    return [12, moment]


def taken_apart(numbers):
    parts = []
    at = 0
    while at < len(numbers):
        size = numbers[at]
        part = numbers[at + 1:at + 1 + size]
        if size < 1 or len(part) != size:
            raise AssertionError(f"not answers of calls: {numbers}")
        parts.append(part)
        at += 1 + size
    return parts


def told(*calls):
    """What is answered of each of these calls, handed in as one line."""
    parts = taken_apart(answers([number for call in calls for number in call]))
    if len(parts) != len(calls):
        raise AssertionError(f"{len(calls)} calls, {len(parts)} answers")
    return parts


def last_told(*calls):
    return told(*calls)[-1]


def at(year, month, day, hour=0, minute=0):
    """The number of the moment that has this date and time, universal."""
    return (datetime.datetime(year, month, day, hour, minute) - EPOCH) // datetime.timedelta(minutes=1)
