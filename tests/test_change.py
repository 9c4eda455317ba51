import unittest

from lines import (BEYOND, LAST, SOUTH_BEGINS, SOUTH_ENDS, at, change, decree, drop, last_told, offset, place, summer,
                   told)


class ChangeTest(unittest.TestCase):
    def changes(self, line, expected):
        """The next change behind each of these moments, after these calls."""
        answered = told(*line, *[change(0, moment) for moment in expected])[len(line):]
        self.assertEqual(dict(zip(expected, answered)), expected)

    def test_by_offset_alone(self):
        found = [5000, 30, -100]
        self.changes([place(30), decree(0, 5000, -100)], {0: found, 1: found, 4998: found, 4999: found, 5000: [-6],
                                                          5001: [-6], LAST: [-6]})

    def test_one_decree_behind_another(self):
        first, second, third = [5000, 30, -100], [6000, -100, 0], [7000, 0, 840]
        line = [place(30), decree(0, 7000, 840), decree(0, 5000, -100), decree(0, 6000, 0)]
        self.changes(line, {0: first, 4999: first, 5000: second, 5999: second, 6000: third, 6999: third, 7000: [-6]})

    def test_by_summer_alone(self):
        begin, end, again = at(2026, 3, 29, 1), at(2026, 10, 25, 1), at(2027, 3, 28, 1)
        on, back = [begin, 60, 120], [end, 120, 60]
        self.changes([place(0), summer(0, 0, 60)],
                     {at(2025, 12, 1): on, at(2026, 1, 1): on, begin - 1: on, begin: back, begin + 1: back,
                      end - 1: back, end: [again, 60, 120], at(2026, 12, 31, 23, 59): [again, 60, 120]})

    def test_by_summer_over_the_years_end(self):
        end, begin, again = at(2026, 4, 5, 16), at(2026, 10, 4, 16), at(2027, 4, 4, 16)
        on, back = [begin, 600, 660], [end, 660, 600]
        self.changes([place(0), summer(0, 0, 600, 60, SOUTH_BEGINS, SOUTH_ENDS)],
                     {0: [at(2000, 4, 2, 16), 660, 600], at(2025, 12, 31, 23, 59): back, at(2026, 1, 1): back,
                      end - 1: back, end: on, begin - 1: on, begin: [again, 660, 600]})

    def test_through_a_hundred_years_by_summer(self):
        for begins, ends, first in ((SOUTH_BEGINS, SOUTH_ENDS, [60, 0]), (SOUTH_ENDS, SOUTH_BEGINS, [0, 60])):
            moment, found = 0, []
            while moment is not None:
                answer = last_told(place(0), summer(0, 0, 0, 60, begins, ends), change(0, moment))
                moment = answer[0] if len(answer) == 3 else None
                if moment is not None:
                    found.append(answer)
            self.assertEqual(answer, [-6])
            self.assertEqual(len(found), 200)
            self.assertEqual([answer[1:] for answer in found], [first, first[::-1]] * 100)
            self.assertEqual([answer[0] for answer in found[:2]], [at(2000, 4, 2, 16), at(2000, 10, 1, 16)])
            self.assertEqual([answer[0] for answer in found[-2:]], [at(2099, 4, 5, 16), at(2099, 10, 4, 16)])

    def test_at_the_very_next_moment(self):
        self.changes([place(0), decree(0, 1, 7)], {0: [1, 0, 7], 1: [-6]})
        self.changes([place(0), decree(0, 1, 7), decree(0, 2, 8)], {0: [1, 0, 7], 1: [2, 7, 8], 2: [-6]})
        begin = at(2026, 3, 29, 1)
        self.changes([place(0), summer(0, 0, 0)], {begin - 1: [begin, 0, 60]})

    def test_two_close_to_one_another(self):
        begin = at(2026, 3, 29, 1)
        line = [place(0), summer(0, 0, 0), decree(0, begin + 1, 5), decree(0, begin + 2, 60)]
        self.changes(line, {begin - 1: [begin, 0, 60], begin: [begin + 1, 60, 5], begin + 1: [begin + 2, 5, 60],
                            begin + 2: [-6]})
        # Summer begins a minute ahead of the year's end, and ends with the next year's beginning.
        year = at(2022, 1, 1)
        self.changes([place(0), summer(0, at(2021, 6, 1), 0, 60, [1, 1, 5, 12, 1439], [0, 1, 6, 1, 0])],
                     {at(2021, 7, 1): [year - 1, 0, 60], year - 2: [year - 1, 0, 60], year - 1: [year, 60, 0],
                      year: [at(2022, 12, 30, 23, 59), 0, 60]})

    def test_a_decree_that_changes_nothing_is_no_change(self):
        self.changes([place(60), decree(0, 5000, 60)], {0: [-6], 4999: [-6], 5000: [-6]})
        line = [place(60), decree(0, 5000, 60), decree(0, 6000, 61)]
        self.changes(line, {0: [6000, 60, 61], 4999: [6000, 60, 61], 5000: [6000, 60, 61]})

    def test_a_decree_in_summer_that_makes_its_offset_so_is_no_change(self):
        june = at(2026, 6, 1)
        line = [place(0), summer(0, at(2026, 1, 1), 0), decree(0, june, 60)]
        self.changes(line, {at(2026, 1, 1): [at(2026, 3, 29, 1), 0, 60], at(2026, 3, 29, 1): [-6], june - 1: [-6]})

    def test_a_decree_with_another_summer_in_winter_is_no_change(self):
        january = at(2026, 1, 1)
        line = [place(0), summer(0, 0, 0), summer(0, january, 0, 30)]
        found = [at(2026, 3, 29, 1), 0, 30]
        self.changes(line, {at(2025, 10, 26, 1): found, january - 1: found, january: found})

    def test_a_beginning_of_summer_that_changes_nothing_is_no_change(self):
        begin, end = at(2026, 3, 29, 1), at(2026, 10, 25, 1)
        # At its beginning a decree takes as much off as summer puts on; at its end, likewise.
        line = [place(60), summer(0, begin, 0)]
        self.changes(line, {0: [end, 60, 0], begin - 1: [end, 60, 0], begin: [end, 60, 0]})
        line = [place(0), summer(0, at(2026, 1, 1), 0), summer(0, end, 60)]
        self.changes(line, {begin: [at(2027, 3, 28, 1), 60, 120], end - 1: [at(2027, 3, 28, 1), 60, 120]})

    def test_a_decree_at_the_very_moment_at_which_summer_begins(self):
        begin, end = at(2026, 3, 29, 1), at(2026, 10, 25, 1)
        line = [place(0), summer(0, begin, 10, 30)]
        self.changes(line, {begin - 1: [begin, 0, 40], begin: [end, 40, 10]})
        line = [place(0), summer(0, at(2026, 1, 1), 0), decree(0, begin, 10)]
        self.changes(line, {at(2026, 1, 1): [begin, 0, 10], begin - 1: [begin, 0, 10], begin: [-6]})
        line = [place(0), summer(0, at(2026, 1, 1), 0), decree(0, begin, 0)]
        self.changes(line, {at(2026, 1, 1): [-6], begin - 1: [-6], begin: [-6]})

    def test_a_decree_at_the_very_moment_at_which_summer_ends(self):
        end = at(2026, 10, 25, 1)
        line = [place(0), summer(0, at(2026, 6, 1), 0), decree(0, end, 10)]
        self.changes(line, {end - 1: [end, 60, 10], end: [-6]})
        line = [place(0), summer(0, at(2026, 6, 1), 0), decree(0, end, 60)]
        self.changes(line, {at(2026, 6, 1): [-6], end - 1: [-6], end: [-6]})
        line = [place(0), summer(0, end, 0)]
        self.changes(line, {end - 1: [at(2027, 3, 28, 1), 0, 60], end: [at(2027, 3, 28, 1), 0, 60]})

    def test_summer_of_decrees_not_in_force_brings_none(self):
        line = [place(0), summer(0, at(2030, 1, 1), 0), decree(0, at(2031, 1, 1), 0)]
        begin, end = at(2030, 3, 31, 1), at(2030, 10, 27, 1)
        self.changes(line, {0: [begin, 0, 60], at(2029, 6, 1): [begin, 0, 60], begin: [end, 60, 0], end: [-6],
                            at(2050, 1, 1): [-6]})

    def test_far_behind(self):
        begin = at(2099, 3, 29, 1)
        self.changes([place(0), summer(0, at(2099, 1, 1), 0)], {0: [begin, 0, 60], at(2050, 6, 1): [begin, 0, 60]})
        self.changes([place(0), decree(0, LAST, 1)], {0: [LAST, 0, 1], LAST - 1: [LAST, 0, 1], LAST: [-6]})

    def test_the_last_of_all(self):
        end = at(2099, 10, 25, 1)
        self.changes([place(0), summer(0, 0, 0)], {end - 1: [end, 60, 0], end: [-6], LAST: [-6]})
        # Summer begins at the last moment but one; in the year 2100 it would end.
        line = [place(0), summer(0, 0, 0, 60, [1, 1, 4, 12, 1438], [0, 1, 1, 6, 0])]
        self.changes(line, {LAST - 2: [LAST - 1, 0, 60], LAST - 1: [-6], LAST: [-6]})
        line = [place(0), summer(0, 0, 0, 60, [1, 1, 4, 12, 1439], [0, 1, 5, 1, 0])]
        self.changes(line, {LAST - 1: [LAST, 0, 60], LAST: [-6]})

    def test_what_is_so_from_moment_0_on_is_no_change(self):
        # Summer begins, and it ends, at moment 0.
        line = [place(0), summer(0, 0, 0, 60, [0, 1, 6, 1, 0], [0, 1, 6, 3, 0])]
        self.changes(line, {0: [at(2000, 3, 4), 60, 0]})
        line = [place(0), summer(0, 0, 0, 60, [0, 1, 6, 3, 0], [0, 1, 6, 1, 0])]
        self.changes(line, {0: [at(2000, 3, 4), 0, 60]})
        self.changes([place(0), decree(0, 0, 60)], {0: [-6]})

    def test_at_the_years_beginning(self):
        year = at(2026, 1, 1)
        self.changes([place(0), decree(0, year, 60)], {0: [year, 0, 60], year - 1: [year, 0, 60], year: [-6]})
        begin = at(2028, 1, 1)
        self.changes([place(0), summer(0, at(2027, 6, 1), 0, 60, [0, 1, 6, 1, 0], [0, 1, 6, 3, 0])],
                     {at(2027, 6, 1): [begin, 0, 60], begin - 1: [begin, 0, 60], begin: [at(2028, 3, 4), 60, 0]})

    def test_as_the_decrees_are_now(self):
        line = [place(0), decree(0, 5000, 1), change(0, 0), decree(0, 4000, 2), change(0, 0), drop(0, 4000),
                drop(0, 5000), change(0, 0)]
        answered = told(*line)
        self.assertEqual([answered[2], answered[4], answered[7]], [[5000, 0, 1], [4000, 0, 2], [-6]])

    def test_of_its_place_alone(self):
        line = [place(0), place(0), decree(1, 5000, 1), change(0, 0), change(1, 0)]
        self.assertEqual(told(*line)[3:], [[-6], [5000, 0, 1]])

    def test_it_changes_nothing(self):
        line = [place(0), decree(0, 5, 1), change(0, 0), change(0, LAST), change(0, BEYOND), offset(0, 5),
                decree(0, 6, 1)]
        self.assertEqual(told(*line)[2:], [[5, 0, 1], [-6], [-1], [1001], [3]])

    def test_the_last_moment_and_one_more(self):
        self.assertEqual(last_told(place(0), summer(0, 0, 0), change(0, LAST)), [-6])
        for wrong in (BEYOND, BEYOND + 1, 60000000):
            self.assertEqual(last_told(place(0), change(0, wrong)), [-1])
            self.assertEqual(last_told(place(0), summer(0, 0, 0), change(0, wrong)), [-1])

    def test_no_such_place_is_told_first(self):
        for moment in (0, LAST, BEYOND, 60000000):
            self.assertEqual(told(change(0, moment)), [[-3]])
            self.assertEqual(last_told(place(0), change(1, moment)), [-3])
            self.assertEqual(last_told(place(0), change(20, moment)), [-3])


if __name__ == "__main__":
    unittest.main()
