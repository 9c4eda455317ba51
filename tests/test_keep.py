import unittest

from lines import BEYOND, keep, last_told, offset, place, told, when

TWENTY = [place(0)] + [keep(0, 100 * number) for number in range(20)]


class KeepTest(unittest.TestCase):
    def test_what_is_kept_is_numbered_from_0_on(self):
        self.assertEqual(told(place(0), keep(0, 5), keep(0, 9), keep(0, 5)), [[0], [0], [1], [2]])

    def test_it_is_numbered_through_all_places(self):
        line = [place(10), place(20), keep(1, 50), keep(0, 50), keep(1, 70), when(0), when(1), when(2)]
        self.assertEqual(told(*line)[2:], [[0], [1], [2], [30, 1], [40, 1], [50, 1]])

    def test_whatever_clocks_show_may_be_kept(self):
        for shown in (-100000, -1, 0, BEYOND, 60000000):
            self.assertEqual(last_told(place(0), keep(0, shown)), [0])

    def test_twenty_and_one_more(self):
        self.assertEqual(told(*TWENTY)[1:], [[number] for number in range(20)])
        line = TWENTY + [keep(0, 7), keep(0, 7), when(19), when(20)]
        self.assertEqual(told(*line)[21:], [[-5], [-5], [1900, 1], [-3]])

    def test_twenty_of_all_places_together(self):
        line = TWENTY[:11] + [place(0)] + [keep(1, 5)] * 10 + [keep(0, 5), keep(1, 5)]
        self.assertEqual(told(*line)[21:], [[19], [-5], [-5]])

    def test_no_such_place(self):
        for number in (1, 20):
            self.assertEqual(told(place(0), keep(number, 5), keep(0, 5))[1:], [[-3], [0]])
        self.assertEqual(told(keep(0, 5), when(0)), [[-3], [-3]])

    def test_no_such_place_is_told_ahead_of_no_room(self):
        self.assertEqual(told(*TWENTY, keep(1, 5), keep(20, 5), keep(0, 5))[21:], [[-3], [-3], [-5]])

    def test_it_changes_no_clocks(self):
        self.assertEqual(last_told(place(0), keep(0, 5), offset(0, 5)), [1000])


if __name__ == "__main__":
    unittest.main()
