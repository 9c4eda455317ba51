import unittest

from lines import (BEYOND, LAST, SOUTH_BEGINS, SOUTH_ENDS, at, decree, drop, last_told, meant, moments, offset, place,
                   summer, told)

# Summer from the first Saturday of January 2000, which is day 0, at minute 600.
EARLY_BEGINS = [0, 1, 6, 1, 600]
EARLY_ENDS = [0, 1, 6, 3, 600]


class MeantTest(unittest.TestCase):
    def means(self, line, expected):
        """What is meant, by what clocks show, after these calls."""
        answered = told(*line, *[meant(0, shown) for shown in expected])[len(line):]
        self.assertEqual(dict(zip(expected, answered)), expected)

    def test_what_clocks_show_once(self):
        self.means([place(60)], {60: [0, 1], 61: [1, 1], 5000: [4940, 1]})
        self.means([place(-60)], {0: [60, 1], 5000: [5060, 1]})

    def test_of_what_clocks_show_twice_the_first(self):
        end = at(2026, 10, 25, 1)
        self.means([place(0), summer(0, 0, 60)], {end + 59: [end - 61, 1], end + 60: [end - 60, 1],
                                                  end + 119: [end - 1, 1], end + 120: [end + 60, 1]})

    def test_of_what_clocks_show_more_than_twice_the_first(self):
        line = [place(300), decree(0, 1200, 0), decree(0, 1100, 100), decree(0, 1000, 200)]
        self.means(line, {1199: [899, 1], 1200: [900, 1], 1299: [999, 1], 1300: [1300, 1]})

    def test_what_clocks_jump_over_as_summer_begins(self):
        begin = at(2026, 3, 29, 1)
        self.means([place(0), summer(0, 0, 60)], {begin + 59: [begin - 1, 1], begin + 60: [begin, 0],
                                                  begin + 90: [begin, 0], begin + 119: [begin, 0],
                                                  begin + 120: [begin, 1], begin + 121: [begin + 1, 1]})

    def test_what_clocks_jump_over_as_a_decree_begins(self):
        line = [place(0), decree(0, 5000, 100)]
        self.means(line, {4999: [4999, 1], 5000: [5000, 0], 5050: [5000, 0], 5099: [5000, 0], 5100: [5000, 1]})

    def test_the_widest_jump(self):
        # From 840 behind to 840 and 120 more ahead.
        june = at(2026, 6, 1)
        self.means([place(-840), summer(0, june, 840, 120)],
                   {june - 841: [june - 1, 1], june - 840: [june, 0], june: [june, 0], june + 959: [june, 0],
                    june + 960: [june, 1]})

    def test_a_jump_at_the_years_beginning(self):
        for year in (2001, 2026, 2099):
            begin = at(year, 1, 1)
            self.means([place(10), decree(0, begin, 70)], {begin + 9: [begin - 1, 1], begin + 10: [begin, 0],
                                                           begin + 69: [begin, 0], begin + 70: [begin, 1]})
        # Summer begins with the year 2028, a Saturday.
        begin = at(2028, 1, 1)
        self.means([place(0), summer(0, 0, 0, 60, [0, 1, 6, 1, 0], [0, 1, 6, 3, 0])],
                   {begin - 1: [begin - 1, 1], begin: [begin, 0], begin + 59: [begin, 0], begin + 60: [begin, 1]})

    def test_jumps_of_summer_over_the_years_end(self):
        begin = at(2026, 10, 4, 16)
        end = at(2026, 4, 5, 16)
        line = [place(0), summer(0, 0, 600, 60, SOUTH_BEGINS, SOUTH_ENDS)]
        self.means(line, {begin + 599: [begin - 1, 1], begin + 600: [begin, 0], begin + 659: [begin, 0],
                          begin + 660: [begin, 1], end + 600: [end - 60, 1], end + 659: [end - 1, 1],
                          end + 660: [end + 60, 1]})
        # As the year begins it is summer, and goes on being it.
        year = at(2027, 1, 1)
        self.means(line, {year + 659: [year - 1, 1], year + 660: [year, 1]})

    def test_a_jump_as_a_decree_with_summer_begins_within_it(self):
        june = at(2026, 6, 1)
        self.means([place(0), summer(0, june, 0)], {june - 1: [june - 1, 1], june: [june, 0], june + 59: [june, 0],
                                                    june + 60: [june, 1]})

    def test_a_jump_where_a_decree_and_summer_begin_at_once(self):
        begin = at(2026, 3, 29, 1)
        self.means([place(0), summer(0, begin, 30)], {begin - 1: [begin - 1, 1], begin: [begin, 0],
                                                      begin + 89: [begin, 0], begin + 90: [begin, 1]})

    def test_of_several_jumps_the_first_that_goes_beyond(self):
        line = [place(0), decree(0, 5000, 100), decree(0, 5001, 200), decree(0, 5002, 300)]
        self.means(line, {5000: [5000, 0], 5099: [5000, 0], 5100: [5000, 1], 5101: [5001, 0], 5200: [5001, 0],
                          5201: [5001, 1], 5202: [5002, 0], 5301: [5002, 0], 5302: [5002, 1]})

    def test_a_jump_back_ahead_of_the_one_that_goes_beyond(self):
        line = [place(0), decree(0, 5000, -100), decree(0, 5050, 400), decree(0, 5060, 800)]
        self.means(line, {4999: [4999, 1], 5000: [5050, 0], 5449: [5050, 0], 5450: [5050, 1], 5459: [5059, 1],
                          5460: [5060, 0], 5859: [5060, 0], 5860: [5060, 1]})

    def test_just_that_counts_ahead_of_an_earlier_moment_that_shows_more(self):
        # Clocks jump at 5000; they are put back at 5010, and come to show most of what they jumped over.
        line = [place(0), decree(0, 5000, 100), decree(0, 5010, 0)]
        self.means(line, {5000: [5000, 0], 5009: [5000, 0], 5010: [5010, 1], 5050: [5050, 1], 5099: [5099, 1],
                          5100: [5000, 1], 5109: [5009, 1], 5110: [5110, 1]})

    def test_as_far_behind_as_the_first_to_show_more_may_be(self):
        # Clocks are put back just ahead of showing it, and on again just ahead of coming to show it once more.
        line = [place(840), decree(0, 50000, -840), decree(0, 51680, 840)]
        self.means(line, {50839: [49999, 1], 50840: [51680, 0], 52519: [51680, 0], 52520: [51680, 1]})

    def test_long_before_moment_0(self):
        for first in (place(0), place(840), place(-840), summer(0, 0, -840)):
            line = [place(0), first] if first[0] == 2 else [first]
            self.means(line, {-100000: [0, 0], -1001: [0, 0], -841: [0, 0]})

    def test_just_before_what_is_shown_at_moment_0(self):
        self.means([place(60)], {-1: [0, 0], 0: [0, 0], 59: [0, 0], 60: [0, 1], 61: [1, 1]})

    def test_below_0_with_an_offset_below_0(self):
        self.means([place(-60)], {-61: [0, 0], -60: [0, 1], -59: [1, 1], -1: [59, 1], 0: [60, 1]})
        self.means([place(-840)], {-841: [0, 0], -840: [0, 1], -1: [839, 1]})

    def test_a_jump_over_0(self):
        self.means([place(-300), decree(0, 100, 300)], {-201: [99, 1], -200: [100, 0], -1: [100, 0], 0: [100, 0],
                                                        399: [100, 0], 400: [100, 1]})

    def test_summer_at_moment_0(self):
        self.means([place(0), summer(0, 0, 0, 60, SOUTH_BEGINS, SOUTH_ENDS)], {59: [0, 0], 60: [0, 1]})
        self.means([place(0), summer(0, 0, -600, 60, EARLY_BEGINS, EARLY_ENDS)],
                   {-601: [0, 0], -600: [0, 1], -1: [599, 1], 0: [600, 0], 59: [600, 0], 60: [600, 1]})

    def test_the_most_that_clocks_ever_show(self):
        self.means([place(0)], {LAST: [LAST, 1], BEYOND: [-6], 60000000: [-6]})
        self.means([place(840)], {LAST + 840: [LAST, 1], LAST + 841: [-6], 60000000: [-6]})
        self.means([place(-840)], {LAST - 840: [LAST, 1], LAST - 839: [-6], LAST: [-6], BEYOND: [-6]})

    def test_the_most_may_be_shown_ahead_of_the_last_moment(self):
        line = [place(0), decree(0, LAST - 9, -100)]
        self.means(line, {LAST - 10: [LAST - 10, 1], LAST - 9: [-6], LAST: [-6]})

    def test_a_jump_at_the_last_moment(self):
        line = [place(0), decree(0, LAST, 100)]
        self.means(line, {LAST - 1: [LAST - 1, 1], LAST: [LAST, 0], LAST + 99: [LAST, 0], LAST + 100: [LAST, 1],
                          LAST + 101: [-6]})

    def test_the_years_behind_the_last_one_bring_no_summer(self):
        # In the year 2100 summer would begin on the 1st of January.
        line = [place(0), summer(0, 0, 0, 120, [0, 1, 5, 1, 0], [0, 1, 5, 3, 0])]
        self.means(line, {LAST: [LAST, 1], BEYOND: [-6], BEYOND + 119: [-6]})

    def test_it_is_the_first_of_moments(self):
        for shown in range(4700, 5500, 7):
            line = [place(0), decree(0, 5000, -200), decree(0, 5100, 150), moments(0, shown), meant(0, shown)]
            found, answered = told(*line)[3:]
            self.assertEqual(answered[1], 1 if found[0] else 0)
            if found[0]:
                self.assertEqual(answered[0], found[1])

    def test_as_the_decrees_are_now(self):
        line = [place(0), meant(0, 5050), decree(0, 5000, 100), meant(0, 5050), drop(0, 5000), meant(0, 5050)]
        self.assertEqual(told(*line)[1:], [[5050, 1], [2], [5000, 0], [1], [5050, 1]])

    def test_of_its_place_alone(self):
        line = [place(0), place(60), decree(1, 5000, 160), meant(0, 5100), meant(1, 5100)]
        self.assertEqual(told(*line)[3:], [[5100, 1], [5000, 0]])

    def test_it_changes_nothing(self):
        line = [place(0), meant(0, LAST + 1), meant(0, -5), offset(0, 0), decree(0, 7, 1)]
        self.assertEqual(told(*line)[1:], [[-6], [0, 0], [1000], [2]])

    def test_no_such_place_is_told_first(self):
        for shown in (-100000, 0, 5000, BEYOND, 60000000):
            self.assertEqual(told(meant(0, shown)), [[-3]])
            self.assertEqual(last_told(place(0), meant(1, shown)), [-3])
            self.assertEqual(last_told(place(0), meant(20, shown)), [-3])


if __name__ == "__main__":
    unittest.main()
