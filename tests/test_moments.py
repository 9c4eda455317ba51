import unittest

from lines import BEYOND, LAST, SOUTH_BEGINS, SOUTH_ENDS, at, decree, drop, last_told, moments, place, summer, told


class MomentsTest(unittest.TestCase):
    def test_what_clocks_show_once(self):
        self.assertEqual(last_told(place(60), moments(0, 5000)), [1, 4940])
        self.assertEqual(last_told(place(-60), moments(0, 5000)), [1, 5060])

    def test_what_clocks_jump_over(self):
        begin = at(2026, 3, 29, 1)
        line = [place(0), summer(0, 0, 60)]
        line += [moments(0, shown) for shown in (begin + 59, begin + 60, begin + 119, begin + 120)]
        self.assertEqual(told(*line)[2:], [[1, begin - 1], [0], [0], [1, begin]])

    def test_what_clocks_show_twice(self):
        end = at(2026, 10, 25, 1)
        line = [place(0), summer(0, 0, 60)]
        line += [moments(0, shown) for shown in (end + 59, end + 60, end + 119, end + 120)]
        self.assertEqual(told(*line)[2:], [[1, end - 61], [2, end - 60, end], [2, end - 1, end + 59], [1, end + 60]])

    def test_summer_over_the_years_end(self):
        end = at(2026, 4, 5, 16)
        begin = at(2026, 10, 4, 16)
        line = [place(0), summer(0, 0, 600, 60, SOUTH_BEGINS, SOUTH_ENDS), moments(0, end + 600),
                moments(0, begin + 600)]
        self.assertEqual(told(*line)[2:], [[2, end - 60, end], [0]])

    def test_decrees_that_put_clocks_on_and_back(self):
        line = [place(0), decree(0, 1000, 100), decree(0, 2000, 0)]
        line += [moments(0, shown) for shown in (999, 1000, 1099, 1100, 1999, 2000, 2099, 2100)]
        self.assertEqual(told(*line)[3:], [[1, 999], [0], [0], [1, 1000], [1, 1899], [2, 1900, 2000], [2, 1999, 2099],
                                           [1, 2100]])

    def test_more_than_twice(self):
        line = [place(0), decree(0, 1000, -100), decree(0, 1050, -200), decree(0, 1100, -300), moments(0, 870),
                moments(0, 949), moments(0, 950), moments(0, 800)]
        self.assertEqual(told(*line)[4:], [[3, 870, 1070, 1170], [3, 949, 1049, 1249], [2, 950, 1250],
                                           [2, 800, 1100]])

    def test_rising_where_a_later_decree_was_made_first(self):
        line = [place(300), decree(0, 1200, 0), decree(0, 1100, 100), decree(0, 1000, 200), moments(0, 1200),
                moments(0, 1299)]
        self.assertEqual(told(*line)[4:], [[4, 900, 1000, 1100, 1200], [4, 999, 1099, 1199, 1299]])

    def test_eight_times(self):
        line = [place(700)] + [decree(0, 1000 + 100 * number, 700 - 100 * number) for number in range(1, 8)]
        line += [moments(0, 1750)]
        self.assertEqual(last_told(*line), [8, 1050, 1150, 1250, 1350, 1450, 1550, 1650, 1750])

    def test_each_once_where_decrees_tell_the_same(self):
        line = [place(60), decree(0, 1000, 60), summer(0, 2000, 0, 60), decree(0, 3000, 60), moments(0, 1060),
                moments(0, 560)]
        self.assertEqual(told(*line)[4:], [[1, 1000], [1, 500]])

    def test_at_the_first_moments(self):
        line = [place(60), moments(0, 59), moments(0, 60), moments(0, 0), moments(0, -100000)]
        self.assertEqual(told(*line)[1:], [[0], [1, 0], [0], [0]])

    def test_below_0(self):
        line = [place(-840), moments(0, -841), moments(0, -840), moments(0, -1), moments(0, 0)]
        self.assertEqual(told(*line)[1:], [[0], [1, 0], [1, 839], [1, 840]])

    def test_beyond_all_days(self):
        line = [place(840)] + [moments(0, shown) for shown in (LAST, BEYOND, LAST + 840, LAST + 841, 60000000)]
        self.assertEqual(told(*line)[1:], [[1, LAST - 840], [1, BEYOND - 840], [1, LAST], [0], [0]])

    def test_at_the_last_moments(self):
        line = [place(-60)] + [moments(0, shown) for shown in (LAST - 60, LAST - 59, LAST)]
        self.assertEqual(told(*line)[1:], [[1, LAST], [0], [0]])

    def test_after_a_decree_is_dropped(self):
        line = [place(0), decree(0, 1000, -100), moments(0, 950), drop(0, 1000), moments(0, 950)]
        self.assertEqual(told(*line)[2:], [[2, 950, 1050], [1], [1, 950]])

    def test_no_such_place(self):
        for shown in (-100000, 0, 60000000):
            self.assertEqual(told(moments(0, shown)), [[-3]])
            self.assertEqual(last_told(place(0), moments(1, shown)), [-3])
            self.assertEqual(last_told(place(0), moments(20, shown)), [-3])


if __name__ == "__main__":
    unittest.main()
