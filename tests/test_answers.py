import contextlib
import io
import unittest

from lines import (BEYOND, EUROPE_BEGINS, EUROPE_ENDS, LAST, ahead, at, change, decree, drop, keep, meant, moments,
                   offset, place, shows, summer, there, told, when)
from placeclocks.places import answers

MARCH = at(2026, 3, 29, 1)
OCTOBER = at(2026, 10, 25, 1)
NINE = at(2026, 7, 1, 9)
# Each call with what is answered of it, as this line comes to it.
ALL_CALLS = [
    (ahead(0), [0]),
    (place(60), [0]),
    (keep(0, NINE), [0]),
    (when(0), [NINE - 60, 1]),
    (summer(0, 0, 60), [1]),
    (when(0), [NINE - 120, 1]),
    (place(-300), [1]),
    (there(0, 1), [0, NINE - 420, 2026, 7, 1, 120, 3]),
    (ahead(NINE), [2, 120, -300]),
    (change(0, MARCH - 1), [MARCH, 60, 120]),
    (change(0, MARCH), [OCTOBER, 120, 60]),
    (change(1, MARCH), [-6]),
    (meant(0, MARCH + 60), [MARCH, 0]),
    (meant(0, OCTOBER + 60), [OCTOBER - 60, 1]),
    (moments(0, OCTOBER + 60), [2, OCTOBER - 60, OCTOBER]),
    (moments(0, MARCH + 60), [0]),
    (keep(1, MARCH), [1]),
    (there(1, 0), [0, MARCH + 420, 2026, 3, 29, 480, 7]),
    (decree(1, MARCH, -360), [2]),
    (when(1), [MARCH + 360, 1]),
    (change(1, 0), [MARCH, -300, -360]),
    (offset(1, MARCH - 1), [700]),
    (offset(1, MARCH), [640]),
    (shows(1, 0), [0, -300]),
    (shows(0, LAST), [0, LAST + 60]),
    (shows(0, MARCH), [0, MARCH + 120, 2026, 3, 29, 180, 7]),
    (drop(1, MARCH), [1]),
    (drop(1, MARCH), [-4]),
    (when(1), [MARCH + 300, 1]),
    (change(1, 0), [-6]),
    (place(841), [-1]),
    (decree(2, 0, 0), [-3]),
    (summer(1, 0, 0, 0), [-1]),
    (drop(2, 5), [-3]),
    (offset(1, BEYOND), [-1]),
    (shows(2, 0), [-3]),
    (moments(2, 0), [-3]),
    (meant(1, LAST), [-6]),
    (change(0, BEYOND), [-1]),
    (keep(2, 0), [-3]),
    (when(2), [-3]),
    (there(0, 2), [-3]),
    (ahead(BEYOND), [-1]),
    (ahead(MARCH), [2, 120, -300]),
    (keep(1, LAST), [2]),
    (when(2), [-6]),
    (there(2, 0), [-6]),
    (decree(1, LAST, 0), [2]),
    (when(2), [LAST, 1]),
    (there(2, 0), [0, LAST + 60]),
    (there(2, 1), [0, LAST, 2099, 12, 31, 1439, 4]),
    (meant(1, -100000), [0, 0]),
    (place(0), [2]),
    (ahead(LAST), [3, 60, 0, 0]),
    (decree(0, 0, 60), [1]),
    (when(0), [NINE - 60, 1]),
    (change(0, 0), [-6]),
    (moments(0, OCTOBER + 60), [1, OCTOBER]),
    (summer(1, 0, -300), [2]),
    (change(1, OCTOBER), [at(2027, 3, 28, 1), -300, -240]),
]


def refused(line):
    """These calls, with calls between them that are refused."""
    wrong = [place(841), decree(0, BEYOND, 0), decree(20, 0, 0), summer(0, 0, 0, 60, []), drop(0, 0),
             offset(0, BEYOND), shows(20, 0), moments(20, 0), meant(0, 60000000), change(0, BEYOND), keep(20, 0),
             when(50), there(50, 0), there(0, 20), ahead(BEYOND)]
    return [each for call in line for each in [call] + wrong]


class AnswersTest(unittest.TestCase):
    def test_the_form_of_calls_and_answers(self):
        calls = [0, 60, 1, 0, 500, -30, 2, 0, 700, 0, 60, 5, 1, 1, 7, 3, 60, 5, 1, 1, 7, 10, 60, 3, 0, 700, 4, 0, 500,
                 5, 0, 0, 6, 0, 470, 0, 841]
        self.assertEqual(answers(calls), [1, 0, 1, 2, 1, 3, 1, 2, 1, 970, 7, 0, 60, 2000, 1, 1, 60, 6, 3, 2, 410, 500,
                                          1, -1])

    def test_one_call(self):
        self.assertEqual(answers([0, 0]), [1, 0])
        self.assertEqual(answers([6, 20, -100000]), [1, -3])

    def test_rows_of_no_and_of_eight_numbers(self):
        self.assertEqual(answers([0, 0, 2, 0, 5, 0, 60, 0, 8, 1, 1, 1, 1, 1, 1, 1, 1, 4, 0, 5]), [1, 0, 1, -1, 1, 1000])
        self.assertEqual(answers([0, 0, 2, 0, 5, 0, 60, 8, 1, 1, 1, 1, 1, 1, 1, 1, 0, 4, 0, 5]), [1, 0, 1, -1, 1, 1000])

    def test_rows_behind_a_refusal_are_gone_through(self):
        self.assertEqual(told(summer(20, 5, 0), place(7), offset(0, 0)), [[-3], [0], [1007]])

    def test_sixty_calls(self):
        line = [place(1)] + [summer(0, 5, 0, 60, EUROPE_BEGINS, EUROPE_ENDS)] * 58 + [offset(0, 4)]
        self.assertEqual(told(*line), [[0]] + [[2]] * 58 + [[1001]])

    def test_sixty_calls_with_each_of_the_thirteen(self):
        line = [call for call, answer in ALL_CALLS]
        self.assertEqual(len(line), 60)
        self.assertEqual({call[0] for call in line}, set(range(13)))
        for call, answer, answered in zip(line, [answer for call, answer in ALL_CALLS], told(*line)):
            with self.subTest(call=call):
                self.assertEqual(answered, answer)

    def test_the_same_line_again_stays_as_it_was_and_answers_the_same(self):
        line = [number for call, answer in ALL_CALLS for number in call]
        before = list(line)
        first = answers(line)
        self.assertEqual(line, before)
        self.assertEqual(answers(line), first)
        self.assertEqual({type(number) for number in first}, {int})

    def test_the_form_of_the_calls_from_meant_to_ahead(self):
        calls = [0, 60, 7, 0, 500, 7, 0, 59, 1, 0, 900, 30, 8, 0, 0, 9, 0, 1000, 10, 0, 11, 0, 0, 12, 900, 8, 0, 900]
        self.assertEqual(answers(calls), [1, 0, 2, 440, 1, 2, 0, 0, 1, 2, 3, 900, 60, 30, 1, 0, 2, 970, 1,
                                          7, 0, 1000, 2000, 1, 1, 1000, 6, 2, 1, 30, 1, -6])

    def test_each_call_first_and_alone(self):
        for call, answer in ((place(0), [0]), (decree(0, 0, 0), [-3]), (summer(0, 0, 0), [-3]), (drop(0, 0), [-3]),
                             (offset(0, 0), [-3]), (shows(0, 0), [-3]), (moments(0, 0), [-3]), (meant(0, 0), [-3]),
                             (change(0, 0), [-3]), (keep(0, 0), [-3]), (when(0), [-3]), (there(0, 0), [-3]),
                             (ahead(0), [0])):
            self.assertEqual(answers(call), [len(answer)] + answer)

    def test_a_refusal_changes_nothing(self):
        # Three calls at a time, so that with those between them they are no more than sixty.
        makers = [place(0), decree(0, 5000, 60), keep(0, 5030)]
        askers = [when(0), meant(0, 4000), ahead(5000), offset(0, 4999), moments(0, 5030), there(0, 0), change(0, 0),
                  shows(0, 4999), keep(0, 1), decree(0, 6000, 1), place(1)]
        plain = told(*makers, *askers)
        answered = told(*refused(makers), *askers)
        self.assertEqual(answered[-len(askers):], plain[-len(askers):])
        between = answered[:-len(askers)]
        self.assertEqual([between[0], between[16], between[32]], [[0], [2], [0]])
        refusals = [answer for index, answer in enumerate(between) if index % 16]
        self.assertEqual(refusals, [[-1], [-1], [-3], [-1], [-4], [-1], [-3], [-3], [-6], [-1], [-3], [-3], [-3], [-3],
                                    [-1]] * 3)

    def test_what_is_kept_is_not_kept_from_line_to_line(self):
        self.assertEqual(told(place(0), keep(0, 5), keep(0, 5)), [[0], [0], [1]])
        self.assertEqual(told(when(0), place(0), when(0), keep(0, 7), when(0)), [[-3], [0], [-3], [0], [7, 1]])

    def test_two_lines_know_nothing_of_each_other(self):
        line = place(10) + decree(0, 500, 60)
        self.assertEqual(answers(line), [1, 0, 1, 2])
        self.assertEqual(answers(line), [1, 0, 1, 2])
        self.assertEqual(answers(offset(0, 0)), [1, -3])
        self.assertEqual(answers(place(20) + offset(0, 500)), [1, 0, 1, 1020])

    def test_what_is_handed_in_stays_as_it_was(self):
        line = place(10) + summer(0, 500, 60) + drop(0, 500) + shows(0, 3) + moments(0, 3) + place(841)
        before = list(line)
        given_back = answers(line)
        self.assertEqual(line, before)
        self.assertIsNot(given_back, line)

    def test_whole_numbers_are_given_back(self):
        given_back = answers(place(0) + summer(0, 0, 0) + offset(0, LAST) + shows(0, LAST) + moments(0, LAST))
        self.assertIs(type(given_back), list)
        self.assertEqual({type(number) for number in given_back}, {int})

    def test_nothing_is_printed(self):
        printed = io.StringIO()
        with contextlib.redirect_stdout(printed), contextlib.redirect_stderr(printed):
            answers(place(0) + shows(0, 0) + place(841))
        self.assertEqual(printed.getvalue(), "")


if __name__ == "__main__":
    unittest.main()
