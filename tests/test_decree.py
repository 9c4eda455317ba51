import unittest

from lines import BEYOND, LAST, decree, last_told, offset, place, summer, told

EIGHT = [place(0)] + [decree(0, 1000 * number, number) for number in range(1, 8)]


class DecreeTest(unittest.TestCase):
    def test_answers_how_many_decrees_there_are(self):
        self.assertEqual(told(place(0), decree(0, 500, 60), decree(0, 400, 30)), [[0], [2], [3]])

    def test_is_in_force_from_its_moment_up_to_the_next(self):
        line = [place(10), decree(0, 500, 60), decree(0, 900, -30)]
        line += [offset(0, moment) for moment in (0, 499, 500, 501, 899, 900, 901, LAST)]
        self.assertEqual(told(*line)[3:], [[1010], [1010], [1060], [1060], [1060], [970], [970], [970]])

    def test_an_earlier_one_may_come_later(self):
        line = [place(10), decree(0, 900, -30), decree(0, 500, 60)]
        line += [offset(0, moment) for moment in (499, 500, 899, 900)]
        self.assertEqual(told(*line)[3:], [[1010], [1060], [1060], [970]])

    def test_belongs_to_its_place_alone(self):
        line = [place(1), place(2), decree(1, 500, 60), offset(0, 500), offset(1, 500)]
        self.assertEqual(told(*line)[2:], [[2], [1001], [1060]])

    def test_stands_in_the_place_of_one_from_the_same_moment_on(self):
        line = [place(0), decree(0, 500, 60), decree(0, 500, 90), offset(0, 499), offset(0, 500)]
        self.assertEqual(told(*line)[1:], [[2], [2], [1000], [1090]])

    def test_may_stand_in_the_place_of_the_first_one(self):
        line = [place(0), decree(0, 0, 45), offset(0, 0), decree(0, 500, 1), offset(0, 499)]
        self.assertEqual(told(*line)[1:], [[1], [1045], [2], [1045]])

    def test_takes_a_summer_away_that_it_stands_in_the_place_of(self):
        line = [place(0), summer(0, 0, 0), offset(0, 300000), decree(0, 0, 0), offset(0, 300000)]
        self.assertEqual(told(*line)[1:], [[1], [1060], [1], [1000]])

    def test_the_last_moment_and_one_more(self):
        line = [place(0), decree(0, LAST, 60), offset(0, LAST - 1), offset(0, LAST)]
        self.assertEqual(told(*line)[1:], [[2], [1000], [1060]])
        for wrong in (BEYOND, BEYOND + 1, 60000000):
            self.assertEqual(told(place(0), decree(0, wrong, 60), decree(0, 5, 1))[1:], [[-1], [2]])

    def test_offsets_at_and_beyond_their_bounds(self):
        for right in (-840, 840):
            self.assertEqual(told(place(0), decree(0, 5, right), offset(0, 5))[1:], [[2], [1000 + right]])
        for wrong in (-2000, -841, 841, 2000):
            self.assertEqual(told(place(0), decree(0, 5, wrong), offset(0, 5))[1:], [[-1], [1000]])

    def test_a_wrong_one_leaves_the_one_that_stands_there(self):
        line = [place(0), decree(0, 5, 60), decree(0, 5, 841), offset(0, 5), decree(0, 9, 1)]
        self.assertEqual(told(*line)[2:], [[-1], [1060], [3]])

    def test_no_such_place(self):
        for number in (1, 2, 20):
            self.assertEqual(last_told(place(0), decree(number, 5, 60)), [-3])
        self.assertEqual(told(decree(0, 5, 60)), [[-3]])

    def test_no_such_place_is_told_ahead_of_all_else(self):
        self.assertEqual(last_told(*EIGHT, decree(1, BEYOND, 60)), [-3])
        self.assertEqual(last_told(*EIGHT, decree(1, 5, 841)), [-3])

    def test_eight_and_one_more(self):
        self.assertEqual(told(*EIGHT), [[0], [2], [3], [4], [5], [6], [7], [8]])
        line = EIGHT + [decree(0, 8000, 60), offset(0, 8000)]
        self.assertEqual(told(*line)[8:], [[-5], [1007]])

    def test_of_eight_each_may_be_replaced(self):
        for number in range(8):
            line = EIGHT + [decree(0, 1000 * number, 77), offset(0, 1000 * number), decree(0, 1, 1)]
            self.assertEqual(told(*line)[8:], [[8], [1077], [-5]])

    def test_what_is_wrong_is_told_ahead_of_no_room(self):
        self.assertEqual(last_told(*EIGHT, decree(0, BEYOND, 60)), [-1])
        self.assertEqual(last_told(*EIGHT, decree(0, 8000, -841)), [-1])

    def test_each_place_has_room_for_eight(self):
        line = EIGHT + [place(0)] + [decree(1, number, 1) for number in range(1, 9)]
        self.assertEqual(told(*line)[9:], [[2], [3], [4], [5], [6], [7], [8], [-5]])


if __name__ == "__main__":
    unittest.main()
