import unittest

from lines import BEYOND, LAST, at, decree, drop, last_told, offset, place, summer, told


class DropTest(unittest.TestCase):
    def test_the_decree_is_there_no_more(self):
        line = [place(1), decree(0, 500, 60), decree(0, 900, 90), drop(0, 500)]
        line += [offset(0, moment) for moment in (499, 500, 899, 900)]
        self.assertEqual(told(*line)[3:], [[2], [1001], [1001], [1001], [1090]])

    def test_a_summer_is_there_no_more(self):
        june = at(2000, 6, 1)
        line = [place(0), summer(0, 500, 30), offset(0, june), drop(0, 500), offset(0, june), offset(0, 500)]
        self.assertEqual(told(*line)[1:], [[2], [1090], [1], [1000], [1000]])

    def test_answers_how_many_decrees_there_are_then(self):
        line = [place(0), decree(0, 1, 1), decree(0, 2, 2), decree(0, 3, 3), drop(0, 2), drop(0, 3), drop(0, 1)]
        self.assertEqual(told(*line)[4:], [[3], [2], [1]])

    def test_the_last_moment(self):
        self.assertEqual(told(place(0), decree(0, LAST, 1), drop(0, LAST), offset(0, LAST))[1:], [[2], [1], [1000]])

    def test_twice(self):
        self.assertEqual(told(place(0), decree(0, 7, 1), drop(0, 7), drop(0, 7))[1:], [[2], [1], [-4]])

    def test_there_is_room_again(self):
        line = [place(0)] + [decree(0, number, 1) for number in range(1, 9)]
        line += [drop(0, 4), decree(0, 9, 1), decree(0, 10, 1)]
        self.assertEqual(told(*line)[8:], [[-5], [7], [8], [-5]])

    def test_it_is_taken_from_its_place_alone(self):
        line = [place(0), place(0), decree(0, 7, 1), decree(1, 7, 2), drop(0, 7), offset(0, 7), offset(1, 7)]
        self.assertEqual(told(*line)[4:], [[1], [1000], [1002]])

    def test_moment_0(self):
        line = [place(3), drop(0, 0), offset(0, 0), decree(0, 7, 1), drop(0, 0), decree(0, 0, 2), drop(0, 0)]
        self.assertEqual(told(*line)[1:], [[-4], [1003], [2], [-4], [2], [-4]])

    def test_no_decree_from_that_moment_on(self):
        line = [place(0), decree(0, 7, 1), drop(0, 6), drop(0, 8), offset(0, 7), decree(0, 9, 1)]
        self.assertEqual(told(*line)[2:], [[-4], [-4], [1001], [3]])

    def test_moments_beyond_the_last(self):
        for beyond in (BEYOND, BEYOND + 1, 60000000):
            self.assertEqual(last_told(place(0), drop(0, beyond)), [-4])

    def test_no_such_place_is_told_first(self):
        for moment in (0, 5, BEYOND):
            self.assertEqual(last_told(place(0), drop(1, moment)), [-3])
            self.assertEqual(last_told(drop(20, moment)), [-3])


if __name__ == "__main__":
    unittest.main()
