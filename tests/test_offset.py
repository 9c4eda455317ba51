import unittest

from lines import (BEYOND, EUROPE_BEGINS, EUROPE_ENDS, LAST, SOUTH_BEGINS, SOUTH_ENDS, at, decree, last_told, offset,
                   place, summer, told)


def offsets(line, numbers):
    return [answer[0] for answer in told(*line, *[offset(0, moment) for moment in numbers])[len(line):]]


def around(moment):
    return [moment - 1, moment, moment + 1]


class OffsetTest(unittest.TestCase):
    def turns_at(self, begins, moments):
        """Each of these is a moment at which summer begins; it ends early in the month behind."""
        ends = [0, 1, 1, begins[3] % 12 + 1, 0]
        line = [place(0), summer(0, 0, 0, 60, begins, ends)]
        for moment in moments:
            with self.subTest(begins=begins, moment=moment):
                self.assertEqual(offsets(line, around(moment)), [1000, 1060, 1060])

    def test_summer_that_begins_ahead_of_its_end(self):
        line = [place(120), summer(0, 0, 120)]
        for begin, end in ((at(2000, 3, 26, 1), at(2000, 10, 29, 1)), (at(2024, 3, 31, 1), at(2024, 10, 27, 1)),
                           (at(2026, 3, 29, 1), at(2026, 10, 25, 1)), (at(2099, 3, 29, 1), at(2099, 10, 25, 1))):
            self.assertEqual(offsets(line, around(begin)), [1120, 1180, 1180])
            self.assertEqual(offsets(line, around(end)), [1180, 1120, 1120])

    def test_outside_it_the_year_begins_and_ends(self):
        line = [place(120), summer(0, 0, 120)]
        self.assertEqual(offsets(line, [0, at(2001, 1, 1) - 1, at(2001, 1, 1), at(2050, 1, 1), LAST]), [1120] * 5)

    def test_summer_over_the_years_end(self):
        line = [place(600), summer(0, 0, 600, 60, SOUTH_BEGINS, SOUTH_ENDS)]
        for end, begin in ((at(2000, 4, 2, 16), at(2000, 10, 1, 16)), (at(2023, 4, 2, 16), at(2023, 10, 1, 16)),
                           (at(2099, 4, 5, 16), at(2099, 10, 4, 16))):
            self.assertEqual(offsets(line, around(end)), [1660, 1600, 1600])
            self.assertEqual(offsets(line, around(begin)), [1600, 1660, 1660])

    def test_within_it_the_year_begins_and_ends(self):
        line = [place(600), summer(0, 0, 600, 60, SOUTH_BEGINS, SOUTH_ENDS)]
        self.assertEqual(offsets(line, [0, at(2001, 1, 1) - 1, at(2001, 1, 1), at(2050, 1, 1), LAST]), [1660] * 5)

    def test_the_year_is_that_of_universal_days(self):
        # In the last hours of 2020 these clocks show 2021 already, and it is summer yet.
        line = [place(840), summer(0, 0, 840, 60, [0, 1, 1, 3, 0], [1, 1, 4, 12, 1439])]
        self.assertEqual(offsets(line, [at(2020, 12, 31, 12), at(2020, 12, 31, 23, 59)]), [1900, 1840])
        # In the first hours of 2018 these clocks show 2017 yet, and it is summer already.
        line = [place(-840), summer(0, 0, -840, 60, [0, 1, 1, 1, 0], [0, 1, 1, 12, 0])]
        self.assertEqual(offsets(line, [at(2018, 1, 1) - 1, at(2018, 1, 1), at(2018, 1, 1, 5)]), [160, 220, 220])

    def test_weekdays_from_the_months_beginning(self):
        # The 1st of February is a Tuesday in the leap year 2000, a Thursday in 2001.
        self.turns_at([0, 1, 2, 2, 0], [at(2000, 2, 1), at(2001, 2, 6)])
        self.turns_at([0, 1, 1, 2, 0], [at(2000, 2, 7), at(2001, 2, 5)])
        self.turns_at([0, 1, 4, 2, 0], [at(2000, 2, 3), at(2001, 2, 1)])
        self.turns_at([0, 4, 2, 2, 0], [at(2000, 2, 22), at(2001, 2, 27)])
        self.turns_at([0, 2, 7, 2, 1439], [at(2000, 2, 13, 23, 59), at(2001, 2, 11, 23, 59)])

    def test_weekdays_from_the_months_end(self):
        # The last day of February is a Tuesday in the leap year 2000, a Wednesday in 2001.
        self.turns_at([1, 1, 2, 2, 0], [at(2000, 2, 29), at(2001, 2, 27)])
        self.turns_at([1, 1, 3, 2, 0], [at(2000, 2, 23), at(2001, 2, 28)])
        self.turns_at([1, 4, 2, 2, 0], [at(2000, 2, 8), at(2001, 2, 6)])
        self.turns_at([1, 4, 4, 2, 0], [at(2000, 2, 3), at(2001, 2, 1)])
        self.turns_at([1, 2, 7, 2, 1439], [at(2000, 2, 20, 23, 59), at(2001, 2, 18, 23, 59)])

    def test_turns_in_the_first_and_the_last_month(self):
        self.turns_at([0, 1, 6, 1, 1], [at(2005, 1, 1, 0, 1), at(2028, 1, 1, 0, 1)])
        self.turns_at([1, 1, 6, 1, 1], [at(2004, 1, 31, 0, 1), at(2005, 1, 29, 0, 1)])
        self.turns_at([1, 1, 4, 12, 1438], [at(2099, 12, 31, 23, 58), at(2020, 12, 31, 23, 58)])

    def test_at_a_decree_within_summer(self):
        june = at(2030, 6, 1)
        line = [place(0), summer(0, 0, 0), summer(0, june, 60, 30), decree(0, june + 100, 60)]
        self.assertEqual(offsets(line, around(june)), [1060, 1090, 1090])
        self.assertEqual(offsets(line, around(june + 100)), [1090, 1060, 1060])

    def test_at_a_decree_at_summers_very_moments(self):
        begin = at(2026, 3, 29, 1)
        line = [place(0), summer(0, begin, 0)]
        self.assertEqual(offsets(line, around(begin)), [1000, 1060, 1060])
        end = at(2026, 10, 25, 1)
        line = [place(0), summer(0, end, 0)]
        self.assertEqual(offsets(line, around(end) + [at(2027, 6, 1)]), [1000, 1000, 1000, 1060])

    def test_summer_of_a_decree_no_more_in_force(self):
        line = [place(0), summer(0, 0, 0), decree(0, at(2030, 1, 1), 0)]
        self.assertEqual(offsets(line, [at(2029, 6, 1), at(2030, 6, 1), at(2099, 6, 1)]), [1060, 1000, 1000])

    def test_what_is_decreed_changes_nothing_ahead_of_it(self):
        line = [place(5), summer(0, at(2030, 1, 1), 60)]
        self.assertEqual(offsets(line, [at(2029, 6, 1), at(2030, 6, 1)]), [1005, 1120])

    def test_how_far_clocks_may_be_ahead_or_behind(self):
        self.assertEqual(offsets([place(0), summer(0, 0, 840, 120)], [at(2026, 6, 1)]), [1960])
        self.assertEqual(offsets([place(0), summer(0, 0, -840, 120)], [0, at(2026, 6, 1)]), [160, 280])

    def test_the_last_moment_and_one_more(self):
        self.assertEqual(last_told(place(0), offset(0, LAST)), [1000])
        for wrong in (BEYOND, BEYOND + 1, 60000000):
            self.assertEqual(last_told(place(0), offset(0, wrong)), [-1])

    def test_no_such_place_is_told_first(self):
        for number in (1, 20):
            for moment in (0, LAST, BEYOND):
                self.assertEqual(last_told(place(0), offset(number, moment)), [-3])
        self.assertEqual(told(offset(0, 0)), [[-3]])

    def test_begins_and_ends_are_not_taken_for_each_other(self):
        line = [place(0), summer(0, 0, 0, 60, EUROPE_ENDS, EUROPE_BEGINS)]
        self.assertEqual(offsets(line, around(at(2026, 3, 29, 1))), [1060, 1000, 1000])
        self.assertEqual(offsets(line, around(at(2026, 10, 25, 1))), [1000, 1060, 1060])


if __name__ == "__main__":
    unittest.main()
