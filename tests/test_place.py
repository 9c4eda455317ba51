import unittest

from lines import last_told, offset, place, shows, told


class PlaceTest(unittest.TestCase):
    def test_places_are_numbered_from_0_on(self):
        self.assertEqual(told(place(0), place(60), place(-300)), [[0], [1], [2]])

    def test_each_place_has_the_offset_it_was_made_with(self):
        line = [place(0), place(60), place(-300), offset(0, 7), offset(1, 7), offset(2, 7)]
        self.assertEqual(told(*line)[3:], [[1000], [1060], [700]])

    def test_a_place_has_its_decree_from_moment_0_on_without_summer(self):
        for moment in (0, 1, 13500000, 26000000, 52595999):
            self.assertEqual(last_told(place(90), offset(0, moment)), [1090])

    def test_offsets_at_their_bounds(self):
        self.assertEqual(told(place(-840), place(840)), [[0], [1]])
        self.assertEqual(last_told(place(-840), offset(0, 0)), [160])
        self.assertEqual(last_told(place(840), offset(0, 0)), [1840])

    def test_offsets_beyond_their_bounds(self):
        for wrong in (-2000, -841, 841, 2000):
            self.assertEqual(told(place(wrong), place(5)), [[-1], [0]])

    def test_a_refused_place_is_not_there(self):
        self.assertEqual(told(place(841), offset(0, 0), shows(0, 0)), [[-1], [-3], [-3]])

    def test_there_is_room_for_six(self):
        line = [place(number) for number in range(7)]
        self.assertEqual(told(*line), [[0], [1], [2], [3], [4], [5], [-5]])

    def test_a_seventh_changes_nothing(self):
        line = [place(number) for number in range(7)]
        line += [offset(5, 0), offset(6, 0)]
        self.assertEqual(told(*line)[7:], [[1005], [-3]])

    def test_a_wrong_offset_is_told_ahead_of_no_room(self):
        line = [place(number) for number in range(6)]
        self.assertEqual(told(*line, place(-841), place(841), place(840))[6:], [[-1], [-1], [-5]])


if __name__ == "__main__":
    unittest.main()
