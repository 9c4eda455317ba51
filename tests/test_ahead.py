import unittest

from lines import BEYOND, LAST, ahead, at, decree, drop, keep, last_told, offset, place, summer, told


class AheadTest(unittest.TestCase):
    def test_no_places(self):
        for moment in (0, 5000, LAST):
            self.assertEqual(told(ahead(moment)), [[0]])

    def test_one_place(self):
        self.assertEqual(last_told(place(90), ahead(5000)), [1, 90])
        self.assertEqual(last_told(place(0), ahead(5000)), [1, 0])
        self.assertEqual(last_told(place(-840), ahead(5000)), [1, -840])

    def test_six_places_in_their_order(self):
        line = [place(minutes) for minutes in (60, -300, 0, 840, -840, 345)]
        self.assertEqual(last_told(*line, ahead(5000)), [6, 60, -300, 0, 840, -840, 345])
        self.assertEqual(last_told(*line, place(1), ahead(5000)), [6, 60, -300, 0, 840, -840, 345])

    def test_just_before_a_decree_and_at_it(self):
        line = [place(1), place(60), decree(1, 5000, -60), ahead(4999), ahead(5000), drop(1, 5000), ahead(5000)]
        self.assertEqual(told(*line)[3:], [[2, 1, 60], [2, 1, -60], [1], [2, 1, 60]])

    def test_just_before_summers_turns_and_at_them(self):
        line = [place(0), place(60), summer(1, 0, 60)]
        for turn, before, then in ((at(2026, 3, 29, 1), 60, 120), (at(2026, 10, 25, 1), 120, 60)):
            self.assertEqual(told(*line, ahead(turn - 1), ahead(turn))[3:], [[2, 0, before], [2, 0, then]])

    def test_at_the_same_moment_in_each_place(self):
        # Each place's clocks change at a moment of their own.
        line = [place(0) for number in range(6)]
        line += [decree(number, 1000 * (number + 1), 10 * (number + 1)) for number in range(6)]
        line += [ahead(0), ahead(3000), ahead(5999), ahead(6000)]
        self.assertEqual(told(*line)[12:], [[6, 0, 0, 0, 0, 0, 0], [6, 10, 20, 30, 0, 0, 0],
                                            [6, 10, 20, 30, 40, 50, 0], [6, 10, 20, 30, 40, 50, 60]])

    def test_it_is_what_offset_tells(self):
        june = at(2026, 6, 1)
        line = [place(0), summer(0, 0, -30), place(7), ahead(june), offset(0, june), offset(1, june)]
        self.assertEqual(told(*line)[3:], [[2, 30, 7], [1030], [1007]])

    def test_what_is_kept_does_not_count(self):
        self.assertEqual(last_told(place(5), keep(0, 9), keep(0, 9), ahead(0)), [1, 5])

    def test_the_last_moment_and_one_more(self):
        self.assertEqual(last_told(place(5), decree(0, LAST, 6), ahead(LAST)), [1, 6])
        for wrong in (BEYOND, BEYOND + 1, 60000000):
            self.assertEqual(last_told(place(5), ahead(wrong)), [-1])
            self.assertEqual(told(ahead(wrong)), [[-1]])


if __name__ == "__main__":
    unittest.main()
