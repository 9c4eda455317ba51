import unittest

from lines import BEYOND, EUROPE_BEGINS, EUROPE_ENDS, LAST, at, decree, last_told, offset, place, summer, told

EIGHT = [place(0)] + [summer(0, 1000 * number, number) for number in range(1, 8)]
# Each of the five numbers of a list: at its least, its most, and just beyond.
BOUNDS = ((0, 1, (2, 9999)), (1, 4, (0, 5, 9999)), (1, 7, (0, 8, 9999)), (1, 12, (0, 13, 9999)),
          (0, 1439, (1440, 9999)))


def with_number(row, index, number):
    return row[:index] + [number] + row[index + 1:]


class SummerTest(unittest.TestCase):
    def test_answers_how_many_decrees_there_are(self):
        line = [place(0), summer(0, 500, 60), decree(0, 400, 30), summer(0, 0, 0), summer(0, 400, 9)]
        self.assertEqual(told(*line), [[0], [2], [3], [3], [3]])

    def test_stands_in_the_place_of_one_from_the_same_moment_on(self):
        june = at(2000, 6, 1)
        line = [place(0), decree(0, 500, 10), summer(0, 500, 20, 30), offset(0, 500), offset(0, june)]
        line += [summer(0, 500, 40, 50), offset(0, 500), offset(0, june)]
        self.assertEqual(told(*line)[2:], [[2], [1020], [1050], [2], [1040], [1090]])

    def test_no_such_place(self):
        for number in (1, 20):
            self.assertEqual(last_told(place(0), summer(number, 5, 60)), [-3])
        self.assertEqual(told(summer(0, 5, 60)), [[-3]])

    def test_no_such_place_is_told_ahead_of_all_else(self):
        for wrong in (summer(1, BEYOND, 60), summer(1, 5, 841), summer(1, 5, 60, 0), summer(1, 5, 60, 121),
                      summer(1, 5, 60, 60, []), summer(1, 5, 60, 60, EUROPE_BEGINS, EUROPE_BEGINS)):
            self.assertEqual(last_told(*EIGHT, wrong), [-3])

    def test_the_last_moment_and_one_more(self):
        self.assertEqual(told(place(0), summer(0, LAST, 60), offset(0, LAST - 1), offset(0, LAST))[1:],
                         [[2], [1000], [1060]])
        for wrong in (BEYOND, 60000000):
            self.assertEqual(told(place(0), summer(0, wrong, 60), decree(0, 5, 1))[1:], [[-1], [2]])

    def test_offsets_at_and_beyond_their_bounds(self):
        for right in (-840, 840):
            self.assertEqual(told(place(0), summer(0, 5, right), offset(0, 5))[1:], [[2], [1000 + right]])
        for wrong in (-2000, -841, 841, 2000):
            self.assertEqual(told(place(0), summer(0, 5, wrong), offset(0, 5))[1:], [[-1], [1000]])

    def test_how_much_more(self):
        june = at(2000, 6, 1)
        for right in (1, 120):
            self.assertEqual(told(place(0), summer(0, 5, 840, right), offset(0, june))[1:], [[2], [1840 + right]])
        for wrong in (0, 121, 999):
            self.assertEqual(told(place(0), summer(0, 5, 60, wrong), offset(0, june))[1:], [[-1], [1000]])

    def test_lists_of_another_size_than_five(self):
        row = [0, 1, 1, 1, 1, 1, 1, 1]
        for size in (0, 1, 2, 3, 4, 6, 7, 8):
            with self.subTest(size=size):
                # The call behind it shows that the row was gone through to its end.
                line = [place(0), summer(0, 5, 60, 60, row[:size]), decree(0, 5, 1)]
                self.assertEqual(told(*line)[1:], [[-1], [2]])
                line = [place(0), summer(0, 5, 60, 60, EUROPE_BEGINS, row[:size]), decree(0, 5, 1)]
                self.assertEqual(told(*line)[1:], [[-1], [2]])
                line = [place(0), summer(0, 5, 60, 60, row[:size], row[:size]), decree(0, 5, 1)]
                self.assertEqual(told(*line)[1:], [[-1], [2]])

    def test_a_right_list_with_more_behind_it_is_wrong(self):
        for size in (6, 8):
            longer = (EUROPE_ENDS + [0, 0, 0])[:size]
            self.assertEqual(last_told(place(0), summer(0, 5, 60, 60, EUROPE_BEGINS, longer)), [-1])

    def test_numbers_of_the_lists_at_their_bounds(self):
        for index, (least, most, beyond) in enumerate(BOUNDS):
            for right in (least, most):
                with self.subTest(index=index, right=right):
                    begins = with_number(EUROPE_BEGINS, index, right)
                    ends = with_number(EUROPE_ENDS, index, right)
                    self.assertEqual(last_told(place(0), summer(0, 5, 60, 60, begins, EUROPE_ENDS)), [2])
                    self.assertEqual(last_told(place(0), summer(0, 5, 60, 60, EUROPE_BEGINS, ends)), [2])

    def test_numbers_of_the_lists_beyond_their_bounds(self):
        for index, (least, most, beyond) in enumerate(BOUNDS):
            for wrong in beyond:
                with self.subTest(index=index, wrong=wrong):
                    begins = with_number(EUROPE_BEGINS, index, wrong)
                    ends = with_number(EUROPE_ENDS, index, wrong)
                    line = [place(0), summer(0, 0, 60, 60, begins, EUROPE_ENDS), offset(0, 0)]
                    self.assertEqual(told(*line)[1:], [[-1], [1000]])
                    line = [place(0), summer(0, 0, 60, 60, EUROPE_BEGINS, ends), offset(0, 0)]
                    self.assertEqual(told(*line)[1:], [[-1], [1000]])

    def test_both_months_the_same(self):
        for month in range(1, 13):
            begins = [0, 1, 1, month, 0]
            ends = [1, 1, 5, month, 100]
            self.assertEqual(told(place(0), summer(0, 5, 60, 60, begins, ends), decree(0, 5, 1))[1:], [[-1], [2]])
        self.assertEqual(last_told(place(0), summer(0, 5, 60, 60, [0, 1, 1, 1, 0], [0, 1, 1, 2, 0])), [2])

    def test_a_wrong_one_leaves_the_one_that_stands_there(self):
        june = at(2000, 6, 1)
        line = [place(0), summer(0, 5, 60), summer(0, 5, 90, 121), offset(0, june), decree(0, 9, 1)]
        self.assertEqual(told(*line)[2:], [[-1], [1120], [3]])

    def test_eight_and_one_more(self):
        self.assertEqual(told(*EIGHT), [[0], [2], [3], [4], [5], [6], [7], [8]])
        self.assertEqual(told(*EIGHT, summer(0, 8000, 60), offset(0, 8000))[8:], [[-5], [1007]])

    def test_of_eight_each_may_be_replaced(self):
        for number in range(8):
            line = EIGHT + [summer(0, 1000 * number, 77), offset(0, 1000 * number)]
            self.assertEqual(told(*line)[8:], [[8], [1077]])

    def test_what_is_wrong_is_told_ahead_of_no_room(self):
        for wrong in (summer(0, BEYOND, 60), summer(0, 8000, 841), summer(0, 8000, 60, 0), summer(0, 8000, 60, 60, []),
                      summer(0, 8000, 60, 60, EUROPE_ENDS, EUROPE_ENDS)):
            self.assertEqual(last_told(*EIGHT, wrong), [-1])


if __name__ == "__main__":
    unittest.main()
