"""Days from the 1st of January 2000 to the 31st of December 2099, numbered from 0 on, and the moments in them."""

MINUTES_OF_DAY = 1440
MOMENT_COUNT = 52596000
FIRST_YEAR = 2000
DAYS_OF_FOUR_YEARS = 1461
DAYS_OF_LEAP_YEAR = 366
DAYS_OF_YEAR = 365
MONTH_LENGTHS = (31, 28, 31, 30, 31, 30, 31, 31, 30, 31, 30, 31)


def is_moment(number):
    return 0 <= number < MOMENT_COUNT


def weekday_of(day):
    # Day 0 was a Saturday, which is weekday 6.
    return (day + 5) % 7 + 1


def year_of(day):
    # Each four years begin with the leap year.
    first = FIRST_YEAR + day // DAYS_OF_FOUR_YEARS * 4
    rest = day % DAYS_OF_FOUR_YEARS
    if rest < DAYS_OF_LEAP_YEAR:
        return first
    return first + 1 + (rest - DAYS_OF_LEAP_YEAR) // DAYS_OF_YEAR


def month_length(year, month):
    if month == 2 and year % 4 == 0:
        return 29
    return MONTH_LENGTHS[month - 1]


def first_day_of_year(year):
    years = year - FIRST_YEAR
    # The first year is a leap year, so it counts as soon as one year has gone by.
    leap_years = (years + 3) // 4
    return years * DAYS_OF_YEAR + leap_years


def first_day_of_month(year, month):
    day = first_day_of_year(year)
    for earlier in range(1, month):
        day = day + month_length(year, earlier)
    return day


def date_of(day):
    year = year_of(day)
    month = 1
    rest = day - first_day_of_year(year)
    while rest >= month_length(year, month):
        rest = rest - month_length(year, month)
        month = month + 1
    return [year, month, rest + 1]
