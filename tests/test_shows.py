import unittest

from lines import BEYOND, LAST, at, decree, last_told, place, shows, summer, told


class ShowsTest(unittest.TestCase):
    def test_the_first_day_was_a_saturday(self):
        self.assertEqual(last_told(place(0), shows(0, 0)), [0, 0, 2000, 1, 1, 0, 6])

    def test_an_ordinary_moment(self):
        moment = at(2026, 11, 19, 12, 34)
        self.assertEqual(last_told(place(-300), shows(0, moment)), [0, moment - 300, 2026, 11, 19, 7 * 60 + 34, 4])

    def test_the_date_is_that_of_what_clocks_show(self):
        moment = at(2026, 12, 31, 23, 30)
        self.assertEqual(last_told(place(30), shows(0, moment)), [0, moment + 30, 2027, 1, 1, 0, 5])
        self.assertEqual(last_told(place(29), shows(0, moment)), [0, moment + 29, 2026, 12, 31, 1439, 4])
        self.assertEqual(last_told(place(-840), shows(0, moment)), [0, moment - 840, 2026, 12, 31, 570, 4])

    def test_days_at_a_months_beginning_and_end(self):
        for year, month, day, weekday in ((2000, 2, 28, 1), (2000, 2, 29, 2), (2000, 3, 1, 3), (2000, 12, 31, 7),
                                          (2001, 1, 1, 1), (2001, 2, 28, 3), (2001, 3, 1, 4), (2003, 12, 31, 3),
                                          (2004, 1, 1, 4), (2004, 2, 29, 7), (2004, 12, 31, 5), (2005, 1, 1, 6),
                                          (2096, 2, 29, 3), (2099, 1, 1, 4), (2099, 2, 28, 6), (2099, 3, 1, 7)):
            moment = at(year, month, day)
            self.assertEqual(last_told(place(0), shows(0, moment)), [0, moment, year, month, day, 0, weekday])
            self.assertEqual(last_told(place(0), shows(0, moment + 1439)),
                             [0, moment + 1439, year, month, day, 1439, weekday])

    def test_the_last_moment(self):
        self.assertEqual(last_told(place(0), shows(0, LAST)), [0, LAST, 2099, 12, 31, 1439, 4])

    def test_around_a_decree(self):
        moment = at(2026, 6, 1)
        line = [place(0), decree(0, moment, 60), shows(0, moment - 1), shows(0, moment), shows(0, moment + 1)]
        self.assertEqual(told(*line)[2:], [[0, moment - 1, 2026, 5, 31, 1439, 7], [0, moment + 60, 2026, 6, 1, 60, 1],
                                           [0, moment + 61, 2026, 6, 1, 61, 1]])

    def test_around_summers_beginning_and_end(self):
        begin = at(2026, 3, 29, 1)
        end = at(2026, 10, 25, 1)
        line = [place(0), summer(0, 0, 60)] + [shows(0, moment) for moment in (begin - 1, begin, end - 1, end)]
        self.assertEqual(told(*line)[2:], [[0, begin + 59, 2026, 3, 29, 119, 7], [0, begin + 120, 2026, 3, 29, 180, 7],
                                           [0, end + 119, 2026, 10, 25, 179, 7], [0, end + 60, 2026, 10, 25, 120, 7]])

    def test_below_0_there_is_no_date(self):
        line = [place(-1), place(-840), shows(0, 0), shows(0, 1), shows(1, 0), shows(1, 839), shows(1, 840)]
        self.assertEqual(told(*line)[2:], [[0, -1], [0, 0, 2000, 1, 1, 0, 6], [0, -840], [0, -1],
                                           [0, 0, 2000, 1, 1, 0, 6]])

    def test_beyond_all_days_there_is_no_date(self):
        line = [place(1), place(840), shows(0, LAST), shows(0, LAST - 1), shows(1, LAST), shows(1, LAST - 839),
                shows(1, LAST - 840)]
        last = [0, LAST, 2099, 12, 31, 1439, 4]
        self.assertEqual(told(*line)[2:], [[0, BEYOND], last, [0, LAST + 840], [0, BEYOND], last])

    def test_the_last_moment_and_one_more(self):
        for wrong in (BEYOND, BEYOND + 1, 60000000):
            self.assertEqual(last_told(place(0), shows(0, wrong)), [-1])
            self.assertEqual(last_told(place(-840), shows(0, wrong)), [-1])

    def test_no_such_place_is_told_first(self):
        for number in (1, 20):
            for moment in (0, LAST, BEYOND):
                self.assertEqual(last_told(place(0), shows(number, moment)), [-3])
        self.assertEqual(told(shows(0, 0)), [[-3]])


if __name__ == "__main__":
    unittest.main()
