"""What a place's clocks are decreed to show: an offset, and perhaps a summer."""

from placeclocks.days import MINUTES_OF_DAY, first_day_of_month, month_length, weekday_of, year_of

MOST_OFFSET = 840
MOST_MORE = 120
MOST_RANK = 4
TURN_SIZE = 5


# A moment of each year at which summer begins or ends.
class Turn:
    def __init__(self, row):
        self.from_end = row[0]
        self.rank = row[1]
        self.weekday = row[2]
        self.month = row[3]
        self.minute = row[4]


class Summer:
    def __init__(self, more, begins, ends):
        self.more = more
        self.begins = begins
        self.ends = ends


# Without a summer, summer is None.
class Decree:
    def __init__(self, moment, offset, summer):
        self.moment = moment
        self.offset = offset
        self.summer = summer


def is_offset(number):
    return -MOST_OFFSET <= number <= MOST_OFFSET


def is_more(number):
    return 1 <= number <= MOST_MORE


def is_turn(row):
    if len(row) != TURN_SIZE:
        return False
    if not (0 <= row[0] <= 1 and 1 <= row[1] <= MOST_RANK):
        return False
    return 1 <= row[2] <= 7 and 1 <= row[3] <= 12 and 0 <= row[4] < MINUTES_OF_DAY


def day_of_turn(turn, year):
    weeks = turn.rank - 1
    first = first_day_of_month(year, turn.month)
    if turn.from_end == 0:
        return first + (turn.weekday - weekday_of(first)) % 7 + weeks * 7
    last = first + month_length(year, turn.month) - 1
    return last - (weekday_of(last) - turn.weekday) % 7 - weeks * 7


def moment_of_turn(turn, year):
    return day_of_turn(turn, year) * MINUTES_OF_DAY + turn.minute


def is_summer(summer, moment):
    year = year_of(moment // MINUTES_OF_DAY)
    beginning = moment_of_turn(summer.begins, year)
    end = moment_of_turn(summer.ends, year)
    if beginning < end:
        return beginning <= moment < end
    return moment < end or moment >= beginning


# The first of summer's beginnings and ends behind a moment; it may lie beyond all moments.
def next_turn(summer, moment):
    year = year_of(moment // MINUTES_OF_DAY)
    found = []
    # The year's own two may both have gone by; the next year's never have.
    for each in (year, year + 1):
        found.append(moment_of_turn(summer.begins, each))
        found.append(moment_of_turn(summer.ends, each))
    return min([turn for turn in found if turn > moment])


def ahead_by(decree, moment):
    if decree.summer is not None and is_summer(decree.summer, moment):
        return decree.offset + decree.summer.more
    return decree.offset


def possible_aheads(decree):
    if decree.summer is None:
        return [decree.offset]
    return [decree.offset, decree.offset + decree.summer.more]
