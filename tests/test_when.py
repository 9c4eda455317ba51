import unittest

from lines import BEYOND, LAST, at, decree, drop, keep, last_told, meant, place, summer, told, when


class WhenTest(unittest.TestCase):
    def test_what_is_meant_by_what_is_kept(self):
        begin, end = at(2026, 3, 29, 1), at(2026, 10, 25, 1)
        line = [place(0), summer(0, 0, 0), keep(0, 5000), keep(0, begin + 30), keep(0, end + 30), keep(0, -5),
                when(0), when(1), when(2), when(3)]
        self.assertEqual(told(*line)[6:], [[5000, 1], [begin, 0], [end - 30, 1], [0, 0]])

    def test_it_is_as_meant_answers(self):
        shown = (-100000, -1, 0, 5000, 5050, 5100, LAST, LAST + 100, LAST + 101, 60000000)
        line = [place(0), decree(0, 5000, 100)] + [keep(0, each) for each in shown]
        line += [when(number) for number in range(len(shown))] + [meant(0, each) for each in shown]
        answered = told(*line)[2 + len(shown):]
        self.assertEqual(answered[:len(shown)], answered[len(shown):])

    def test_as_the_decrees_are_now(self):
        nine = at(2026, 7, 1, 9)
        line = [place(60), keep(0, nine), when(0), decree(0, at(2026, 1, 1), 0), when(0),
                summer(0, at(2026, 6, 1), 30), when(0), drop(0, at(2026, 6, 1)), when(0), drop(0, at(2026, 1, 1)),
                when(0)]
        self.assertEqual(told(*line)[2::2], [[nine - 60, 1], [nine, 1], [nine - 90, 1], [nine, 1], [nine - 60, 1]])

    def test_after_a_decree_in_the_place_of_another(self):
        line = [place(60), keep(0, 5000), decree(0, 0, -60), when(0), summer(0, 0, 120), when(0)]
        self.assertEqual(told(*line)[2:], [[1], [5060, 1], [1], [4880, 1]])

    def test_what_is_kept_may_come_to_be_jumped_over_and_shown_twice(self):
        line = [place(0), keep(0, 5050), when(0), decree(0, 5000, 100), when(0), decree(0, 5000, -100), when(0),
                decree(0, 5100, -200), when(0)]
        self.assertEqual(told(*line)[2::2], [[5050, 1], [5000, 0], [5150, 1], [5250, 1]])

    def test_a_decree_behind_it_changes_nothing(self):
        line = [place(60), keep(0, 5000), decree(0, 4941, -60), when(0), decree(0, 4940, -60), when(0)]
        self.assertEqual(told(*line)[2:], [[2], [4940, 1], [3], [5060, 1]])

    def test_a_refused_decree_changes_nothing(self):
        line = [place(60), keep(0, 5000), decree(0, 0, 841), summer(0, 0, 0, 121), drop(0, 0), when(0)]
        self.assertEqual(told(*line)[2:], [[-1], [-1], [-4], [4940, 1]])

    def test_by_its_own_places_clocks_alone(self):
        line = [place(10), place(20), keep(0, 5000), keep(1, 5000), decree(1, 0, 30), when(0), when(1)]
        self.assertEqual(told(*line)[5:], [[4990, 1], [4970, 1]])

    def test_it_may_be_asked_again(self):
        self.assertEqual(told(place(10), keep(0, 5000), when(0), when(0))[2:], [[4990, 1], [4990, 1]])

    def test_one_that_is_not_kept(self):
        for number in (0, 1, 20, 50):
            self.assertEqual(told(when(number)), [[-3]])
            self.assertEqual(last_told(place(0), when(number)), [-3])
        for number in (1, 2, 19, 20, 50):
            self.assertEqual(last_told(place(0), keep(0, 5), when(number)), [-3])

    def test_no_moment_is_meant(self):
        for shown in (BEYOND, BEYOND + 1, 60000000):
            self.assertEqual(last_told(place(0), keep(0, shown), when(0)), [-6])
        line = [place(0), keep(0, BEYOND), when(0), decree(0, LAST, 1), when(0), drop(0, LAST), when(0)]
        self.assertEqual(told(*line)[2:], [[-6], [2], [LAST, 1], [1], [-6]])


if __name__ == "__main__":
    unittest.main()
