import contextlib
import io
import unittest

from lines import EUROPE_BEGINS, EUROPE_ENDS, LAST, decree, drop, moments, offset, place, shows, summer, told
from placeclocks.places import answers


class AnswersTest(unittest.TestCase):
    def test_the_form_of_calls_and_answers(self):
        calls = [0, 60, 1, 0, 500, -30, 2, 0, 700, 0, 60, 5, 1, 1, 7, 3, 60, 5, 1, 1, 7, 10, 60, 3, 0, 700, 4, 0, 500,
                 5, 0, 0, 6, 0, 470, 0, 841]
        self.assertEqual(answers(calls), [1, 0, 1, 2, 1, 3, 1, 2, 1, 970, 7, 0, 60, 2000, 1, 1, 60, 6, 3, 2, 410, 500,
                                          1, -1])

    def test_one_call(self):
        self.assertEqual(answers([0, 0]), [1, 0])
        self.assertEqual(answers([6, 20, -100000]), [1, -3])

    def test_rows_of_no_and_of_eight_numbers(self):
        self.assertEqual(answers([0, 0, 2, 0, 5, 0, 60, 0, 8, 1, 1, 1, 1, 1, 1, 1, 1, 4, 0, 5]), [1, 0, 1, -1, 1, 1000])
        self.assertEqual(answers([0, 0, 2, 0, 5, 0, 60, 8, 1, 1, 1, 1, 1, 1, 1, 1, 0, 4, 0, 5]), [1, 0, 1, -1, 1, 1000])

    def test_rows_behind_a_refusal_are_gone_through(self):
        self.assertEqual(told(summer(20, 5, 0), place(7), offset(0, 0)), [[-3], [0], [1007]])

    def test_sixty_calls(self):
        line = [place(1)] + [summer(0, 5, 0, 60, EUROPE_BEGINS, EUROPE_ENDS)] * 58 + [offset(0, 4)]
        self.assertEqual(told(*line), [[0]] + [[2]] * 58 + [[1001]])

    def test_two_lines_know_nothing_of_each_other(self):
        line = place(10) + decree(0, 500, 60)
        self.assertEqual(answers(line), [1, 0, 1, 2])
        self.assertEqual(answers(line), [1, 0, 1, 2])
        self.assertEqual(answers(offset(0, 0)), [1, -3])
        self.assertEqual(answers(place(20) + offset(0, 500)), [1, 0, 1, 1020])

    def test_what_is_handed_in_stays_as_it_was(self):
        line = place(10) + summer(0, 500, 60) + drop(0, 500) + shows(0, 3) + moments(0, 3) + place(841)
        before = list(line)
        given_back = answers(line)
        self.assertEqual(line, before)
        self.assertIsNot(given_back, line)

    def test_whole_numbers_are_given_back(self):
        given_back = answers(place(0) + summer(0, 0, 0) + offset(0, LAST) + shows(0, LAST) + moments(0, LAST))
        self.assertIs(type(given_back), list)
        self.assertEqual({type(number) for number in given_back}, {int})

    def test_nothing_is_printed(self):
        printed = io.StringIO()
        with contextlib.redirect_stdout(printed), contextlib.redirect_stderr(printed):
            answers(place(0) + shows(0, 0) + place(841))
        self.assertEqual(printed.getvalue(), "")


if __name__ == "__main__":
    unittest.main()
