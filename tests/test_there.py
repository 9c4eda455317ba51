import unittest

from lines import BEYOND, LAST, at, decree, drop, keep, last_told, place, shows, summer, there, told, when


class ThereTest(unittest.TestCase):
    def test_what_clocks_of_another_place_show(self):
        nine = at(2026, 11, 19, 9)
        line = [place(60), place(-300), keep(0, nine), there(0, 1)]
        self.assertEqual(last_told(*line), [0, nine - 360, 2026, 11, 19, 180, 4])
        line = [place(60), place(840), keep(0, nine), there(0, 1)]
        self.assertEqual(last_told(*line), [0, nine + 780, 2026, 11, 19, 1320, 4])

    def test_what_clocks_of_the_same_place_show(self):
        nine = at(2026, 11, 19, 9)
        self.assertEqual(last_told(place(60), keep(0, nine), there(0, 0)), [0, nine, 2026, 11, 19, 540, 4])

    def test_the_date_there_may_be_another(self):
        begin = at(2027, 1, 1)
        line = [place(0), place(-1), place(0), keep(0, begin), there(0, 0), there(0, 1), keep(2, begin - 1),
                there(1, 1)]
        self.assertEqual(told(*line)[4:], [[0, begin, 2027, 1, 1, 0, 5], [0, begin - 1, 2026, 12, 31, 1439, 4], [1],
                                           [0, begin - 2, 2026, 12, 31, 1438, 4]])

    def test_what_is_jumped_over_at_the_moment_that_is_meant(self):
        begin = at(2026, 3, 29, 1)
        line = [place(60), summer(0, 0, 60), place(0), keep(0, begin + 90), there(0, 0), there(0, 1)]
        self.assertEqual(told(*line)[4:], [[0, begin + 120, 2026, 3, 29, 180, 7], [0, begin, 2026, 3, 29, 60, 7]])

    def test_what_is_shown_twice_at_the_first_moment(self):
        end = at(2026, 10, 25, 1)
        line = [place(60), summer(0, 0, 60), place(0), keep(0, end + 90), there(0, 0), there(0, 1)]
        self.assertEqual(told(*line)[4:], [[0, end + 90, 2026, 10, 25, 150, 7], [0, end - 30, 2026, 10, 25, 30, 7]])

    def test_it_is_as_shows_at_the_moment_that_is_meant(self):
        line = [place(60), summer(0, 0, 60), place(-300), summer(1, 0, -300, 60, [0, 2, 7, 3, 420], [0, 1, 7, 11, 360])]
        for shown in (0, at(2026, 3, 10), at(2026, 3, 29, 2, 30), at(2026, 7, 1), at(2026, 10, 28), LAST):
            moment = last_told(*line, keep(0, shown), when(0))[0]
            for number in (0, 1):
                answered = told(*line, keep(0, shown), there(0, number), shows(number, moment))
                self.assertEqual(answered[-2], answered[-1])

    def test_as_the_decrees_of_both_places_are_now(self):
        nine = at(2026, 11, 19, 9)
        line = [place(60), place(0), keep(0, nine), there(0, 1), decree(1, 0, 30), there(0, 1), decree(0, 500, 0),
                there(0, 1), drop(0, 500), there(0, 1)]
        self.assertEqual([answer[1] for answer in told(*line)[3::2]], [nine - 60, nine - 30, nine + 30, nine - 30])

    def test_below_0_there_is_no_date(self):
        line = [place(0), place(-60), keep(0, 59), keep(0, 60), keep(0, -100000), there(0, 1), there(1, 1),
                there(2, 1), there(2, 0)]
        self.assertEqual(told(*line)[5:], [[0, -1], [0, 0, 2000, 1, 1, 0, 6], [0, -60], [0, 0, 2000, 1, 1, 0, 6]])

    def test_beyond_all_days_there_is_no_date(self):
        line = [place(0), place(60), keep(0, LAST - 60), keep(0, LAST - 59), keep(0, LAST), there(0, 1), there(1, 1),
                there(2, 1), keep(1, BEYOND), there(3, 1), there(3, 0)]
        self.assertEqual(told(*line)[5:], [[0, LAST, 2099, 12, 31, 1439, 4], [0, BEYOND], [0, LAST + 60], [3],
                                           [0, BEYOND], [0, LAST - 59, 2099, 12, 31, 1380, 4]])

    def test_none_such_kept(self):
        for number in (0, 1, 20, 50):
            self.assertEqual(last_told(place(0), there(number, 0)), [-3])
        for number in (1, 2, 20, 50):
            self.assertEqual(last_told(place(0), keep(0, 5), there(number, 0)), [-3])

    def test_no_such_place(self):
        for number in (1, 2, 20):
            self.assertEqual(last_told(place(0), keep(0, 5), there(0, number)), [-3])
        self.assertEqual(told(there(0, 0)), [[-3]])
        self.assertEqual(last_told(place(0), keep(0, 5), there(1, 1)), [-3])

    def test_kept_and_place_are_not_taken_for_each_other(self):
        line = [place(0), place(0), keep(0, 5), there(0, 1), there(1, 0)]
        self.assertEqual(told(*line)[3:], [[0, 5, 2000, 1, 1, 5, 6], [-3]])
        line = [place(0), keep(0, 5), keep(0, 6), there(0, 1), there(1, 0)]
        self.assertEqual(told(*line)[3:], [[-3], [0, 6, 2000, 1, 1, 6, 6]])

    def test_no_moment_is_meant(self):
        for shown in (BEYOND, 60000000):
            line = [place(0), place(60), keep(0, shown), there(0, 0), there(0, 1)]
            self.assertEqual(told(*line)[3:], [[-6], [-6]])

    def test_none_such_is_told_ahead_of_no_moment(self):
        self.assertEqual(last_told(place(0), keep(0, BEYOND), there(0, 1)), [-3])


if __name__ == "__main__":
    unittest.main()
