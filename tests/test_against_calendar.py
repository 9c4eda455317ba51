"""Holds what is answered against Python's own calendar, at moments that are drawn from a fixed seed."""

import datetime
import functools
import random
import unittest

from lines import BEYOND, EPOCH, LAST, at, change, decree, meant, moments, offset, place, shows, summer, told


def turn_by_calendar(row, year):
    return turn_gone_through(tuple(row), year)


@functools.lru_cache(maxsize=None)
def turn_gone_through(row, year):
    """Goes through the month day by day, from its beginning or its end."""
    from_end, rank, weekday, month, minute = row
    day = datetime.date(year, month, 1)
    days = []
    while day.month == month:
        if day.isoweekday() == weekday:
            days.append(day)
        day += datetime.timedelta(days=1)
    found = days[-rank] if from_end else days[rank - 1]
    return at(found.year, found.month, found.day) + minute


def ahead_by_calendar(decrees, moment):
    latest = max(start for start in decrees if start <= moment)
    minutes, more, begins, ends = decrees[latest]
    if more == 0:
        return minutes
    year = (EPOCH + datetime.timedelta(minutes=moment)).year
    begin, end = turn_by_calendar(begins, year), turn_by_calendar(ends, year)
    warm = begin <= moment < end if begin < end else not end <= moment < begin
    return minutes + more if warm else minutes


def drawn_turn(draw, month):
    return [draw.randint(0, 1), draw.randint(1, 4), draw.randint(1, 7), month, draw.randint(0, 1439)]


def drawn_decree(draw):
    minutes = draw.randint(-840, 840)
    if draw.random() < 0.3:
        return (minutes, 0, [], [])
    months = draw.sample(range(1, 13), 2)
    return (minutes, draw.randint(1, 120), drawn_turn(draw, months[0]), drawn_turn(draw, months[1]))


def drawn_decrees(draw):
    """By moment; some of them close together, so that several allow the same time."""
    decrees = {0: drawn_decree(draw)}
    while len(decrees) < 8:
        near = draw.choice(sorted(decrees)) + draw.randint(1, 900)
        moment = near if draw.random() < 0.5 else draw.randint(1, LAST)
        if moment <= LAST:
            decrees[moment] = drawn_decree(draw)
    return decrees


def line_of(draw, decrees):
    line = [place(0)]
    for moment in draw.sample(sorted(decrees), len(decrees)):
        minutes, more, begins, ends = decrees[moment]
        line.append(summer(0, moment, minutes, more, begins, ends) if more else decree(0, moment, minutes))
    return line


def drawn_moments(draw, decrees):
    found = [0, LAST]
    for start in decrees:
        found += [start, max(0, start - 1)]
        minutes, more, begins, ends = decrees[start]
        year = (EPOCH + datetime.timedelta(minutes=start)).year
        if more:
            turn = turn_by_calendar(draw.choice([begins, ends]), year)
            found += [turn, max(0, turn - 1)]
    return found + [draw.randint(0, LAST) for _ in range(10)]


def changes_by_calendar(decrees, first, last):
    """Each change from the first of these moments to the last one, found minute by minute."""
    found = []
    before = ahead_by_calendar(decrees, first - 1) if first else None
    for moment in range(first, last + 1):
        then = ahead_by_calendar(decrees, moment)
        if before is not None and then != before:
            found.append([moment, before, then])
        before = then
    return found


def changes_of_a_century(decrees):
    """Each change, found among all decrees' moments and all turns of all their summers."""
    found = set(decrees)
    for minutes, more, begins, ends in decrees.values():
        for year in range(2000, 2100) if more else ():
            found |= {turn_by_calendar(begins, year), turn_by_calendar(ends, year)}
    pairs = [(moment, ahead_by_calendar(decrees, moment - 1), ahead_by_calendar(decrees, moment))
             for moment in sorted(found - {0})]
    return [list(pair) for pair in pairs if pair[1] != pair[2]]


def meant_by_calendar(decrees, shown):
    """Goes through the moments one by one, as the words tell."""
    first_with_more = None
    for moment in range(max(0, shown - 1000), min(LAST, max(0, shown) + 2000) + 1):
        shows_then = moment + ahead_by_calendar(decrees, moment)
        if shows_then == shown:
            return [moment, 1]
        if shows_then > shown and first_with_more is None:
            first_with_more = moment
    return [-6] if first_with_more is None else [first_with_more, 0]


class AgainstCalendarTest(unittest.TestCase):
    def shown_by_calendar(self, decrees, moment):
        shown = moment + ahead_by_calendar(decrees, moment)
        if not 0 <= shown < BEYOND:
            return [0, shown]
        then = EPOCH + datetime.timedelta(minutes=shown)
        return [0, shown, then.year, then.month, then.day, then.hour * 60 + then.minute, then.isoweekday()]

    def test_offset_and_shows(self):
        draw = random.Random(1)
        for _ in range(150):
            decrees = drawn_decrees(draw)
            line = line_of(draw, decrees)
            for moment in drawn_moments(draw, decrees):
                with self.subTest(decrees=decrees, moment=moment):
                    answered = told(*line, offset(0, moment), shows(0, moment))
                    self.assertEqual(answered[-2], [1000 + ahead_by_calendar(decrees, moment)])
                    self.assertEqual(answered[-1], self.shown_by_calendar(decrees, moment))

    def test_moments(self):
        draw = random.Random(2)
        for _ in range(60):
            decrees = drawn_decrees(draw)
            line = line_of(draw, decrees)
            middle = draw.choice(drawn_moments(draw, decrees))
            by_shown = {}
            for moment in range(max(0, middle - 1100), min(LAST, middle + 1100) + 1):
                by_shown.setdefault(moment + ahead_by_calendar(decrees, moment), []).append(moment)
            # Nothing further off than 960 minutes can show what is asked of here.
            asked = draw.sample(range(middle - 100, middle + 101), 40)
            answered = told(*line, *[moments(0, shown) for shown in asked])[len(line):]
            for shown, answer in zip(asked, answered):
                with self.subTest(decrees=decrees, shown=shown):
                    found = by_shown.get(shown, [])
                    self.assertEqual(answer, [len(found)] + found)

    def test_meant(self):
        draw = random.Random(3)
        for _ in range(60):
            decrees = drawn_decrees(draw)
            line = line_of(draw, decrees)
            asked = [draw.choice(drawn_moments(draw, decrees)) + draw.randint(-1000, 1000) for _ in range(12)]
            answered = told(*line, *[meant(0, shown) for shown in asked])[len(line):]
            for shown, answer in zip(asked, answered):
                with self.subTest(decrees=decrees, shown=shown):
                    self.assertEqual(answer, meant_by_calendar(decrees, shown))

    def test_change_minute_by_minute(self):
        draw = random.Random(4)
        for _ in range(60):
            decrees = drawn_decrees(draw)
            line = line_of(draw, decrees)
            middle = draw.choice(drawn_moments(draw, decrees))
            first, last = max(0, middle - 1000), min(LAST, middle + 1000)
            found = changes_by_calendar(decrees, first, last)
            asked = [first, middle] + [each[0] + step for each in found[:15] for step in (-1, 0)]
            answered = told(*line, *[change(0, moment) for moment in asked])[len(line):]
            for moment, answer in zip(asked, answered):
                with self.subTest(decrees=decrees, moment=moment):
                    behind = [each for each in found if each[0] > moment]
                    if behind:
                        self.assertEqual(answer, behind[0])
                    else:
                        self.assertTrue(answer == [-6] or answer[0] > last)

    def test_change_through_the_century(self):
        draw = random.Random(5)
        for _ in range(60):
            decrees = drawn_decrees(draw)
            line = line_of(draw, decrees)
            found = changes_of_a_century(decrees)
            asked = draw.sample(drawn_moments(draw, decrees), 15) + [each[0] for each in draw.sample(found, 3)]
            answered = told(*line, *[change(0, moment) for moment in asked])[len(line):]
            for moment, answer in zip(asked, answered):
                with self.subTest(decrees=decrees, moment=moment):
                    self.assertEqual(answer, ([each for each in found if each[0] > moment] + [[-6]])[0])

    def test_every_day_has_its_date(self):
        for first in range(0, 36525, 59):
            days = range(first, min(first + 59, 36525))
            for day, answer in zip(days, told(place(0), *[shows(0, day * 1440 + day % 1440) for day in days])[1:]):
                date = datetime.date(2000, 1, 1) + datetime.timedelta(days=day)
                self.assertEqual(answer[2:], [date.year, date.month, date.day, day % 1440, date.isoweekday()])


if __name__ == "__main__":
    unittest.main()
