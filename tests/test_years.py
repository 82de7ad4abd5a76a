"""Points 8 and 15: how long a stake and work keep a claim, and whether the years of a paper hold."""

import random
import unittest

from dipright.years import counted, holds, through

HUGE = 10 ** 40 - 1  # the greatest number of 40 figures


def kept_days(term, days):
    """Point 8 told day by day: the days that count, and all days on which the claim is kept."""
    counting, kept = [], set()
    for day in days:
        if not counting or day in kept:
            counting.append(day)
            kept.update(range(day, day + term + 1))
    return counting, kept


class CountedTest(unittest.TestCase):
    def test_no_day(self):
        self.assertEqual(counted(1, []), [])
        self.assertEqual(counted(400, []), [])

    def test_one_day(self):
        self.assertEqual(counted(1, [1]), [1])
        self.assertEqual(counted(7, [400]), [400])

    def test_work_within_the_year(self):
        self.assertEqual(counted(10, [5, 6]), [5, 6])
        self.assertEqual(counted(10, [5, 14]), [5, 14])

    def test_work_on_the_last_day_kept(self):
        self.assertEqual(counted(10, [5, 15]), [5, 15])
        self.assertEqual(counted(1, [5, 6]), [5, 6])
        self.assertEqual(counted(399, [1, 400]), [1, 400])

    def test_work_one_day_behind_it(self):
        self.assertEqual(counted(10, [5, 16]), [5])
        self.assertEqual(counted(1, [5, 7]), [5])
        self.assertEqual(counted(398, [1, 400]), [1])

    def test_each_work_begins_the_term_anew(self):
        self.assertEqual(counted(10, [5, 15, 25, 35]), [5, 15, 25, 35])
        self.assertEqual(counted(10, [5, 6, 16, 26]), [5, 6, 16, 26])
        self.assertEqual(counted(10, [5, 6, 17]), [5, 6])
        self.assertEqual(counted(1, [1, 2, 3, 4, 6, 7]), [1, 2, 3, 4])

    def test_the_terms_are_not_added_up(self):
        self.assertEqual(counted(10, [5, 7, 9, 20]), [5, 7, 9])
        self.assertEqual(counted(10, [5, 7, 9, 19]), [5, 7, 9, 19])

    def test_no_day_behind_the_fall_counts(self):
        self.assertEqual(counted(10, [5, 16, 17, 18, 26, 27]), [5])
        self.assertEqual(counted(10, [5, 15, 26, 30, 35, 36]), [5, 15])

    def test_many_days(self):
        self.assertEqual(counted(1, list(range(1, 401))), list(range(1, 401)))
        self.assertEqual(counted(3, list(range(1, 401, 3))), list(range(1, 401, 3)))
        self.assertEqual(counted(2, list(range(1, 401, 3))), [1])

    def test_the_list_handed_in_stays(self):
        days = [5, 15, 26, 27]
        counted(10, days)
        through(10, days)
        self.assertEqual(days, [5, 15, 26, 27])

    def test_the_told_list_is_the_callers_own(self):
        days = [5, 15]
        told = counted(10, days)
        told.append(99)
        told[0] = 0
        self.assertEqual(days, [5, 15])
        self.assertEqual(counted(10, days), [5, 15])
        nothing = counted(10, [])
        nothing.append(1)
        self.assertEqual(counted(10, []), [])

    def test_a_list_is_told(self):
        for days in ([], [4], [4, 5]):
            told = counted(3, days)
            self.assertIs(type(told), list)
            self.assertTrue(all(type(day) is int for day in told))


class ThroughTest(unittest.TestCase):
    def test_a_stake_alone(self):
        self.assertEqual(through(1, [1]), 2)
        self.assertEqual(through(10, [5]), 15)
        self.assertEqual(through(400, [400]), 800)

    def test_work_that_counts(self):
        self.assertEqual(through(10, [5, 15]), 25)
        self.assertEqual(through(10, [5, 6]), 16)
        self.assertEqual(through(10, [5, 6, 7]), 17)
        self.assertEqual(through(1, list(range(1, 401))), 401)

    def test_work_that_counts_for_nothing(self):
        self.assertEqual(through(10, [5, 16]), 15)
        self.assertEqual(through(10, [5, 15, 26, 27, 30]), 25)
        self.assertEqual(through(1, [1, 3, 4, 5]), 2)

    def test_the_kind(self):
        self.assertIs(type(through(3, [4, 5])), int)


class CountedByDaysTest(unittest.TestCase):
    def test_all_short_lists(self):
        for term in (1, 2, 3, 5, 8):
            for bits in range(1, 2 ** 9):
                days = [day for day in range(1, 10) if bits >> (day - 1) & 1]
                counting, kept = kept_days(term, days)
                self.assertEqual(counted(term, days), counting, (term, days))
                self.assertEqual(through(term, days), max(kept), (term, days))

    def test_some_long_lists(self):
        source = random.Random(8)
        for round_number in range(300):
            term = source.choice((1, 2, 5, 10, 20, 40, 100, 399, 400))
            days = sorted(source.sample(range(1, 401), source.randint(1, 60)))
            counting, kept = kept_days(term, days)
            self.assertEqual(counted(term, days), counting, (term, days))
            self.assertEqual(through(term, days), max(kept), (term, days))


class HoldsTest(unittest.TestCase):
    def check(self, term, years, day, answer):
        self.assertIs(holds(term, years, day), answer, (term, years, day))

    def test_no_number(self):
        for day in (-1, 0, 1, 400):
            self.check(10, (), day, False)

    def test_one_number(self):
        self.check(10, (5,), 4, False)
        self.check(10, (5,), 5, True)
        self.check(10, (5,), 6, True)
        self.check(10, (5,), 14, True)
        self.check(10, (5,), 15, True)
        self.check(10, (5,), 16, False)
        self.check(10, (5,), 1000, False)

    def test_gaps(self):
        for gap, answer in ((9, True), (10, True), (11, False), (1, True), (0, False), (-1, False), (-10, False)):
            self.check(10, (5, 5 + gap), 5 + gap, answer)
            self.check(10, (5, 5 + gap), 5 + gap + 1, answer)
            self.check(10, (1, 5, 5 + gap), 5 + gap, answer)
            self.check(10, (5, 5 + gap, 5 + gap + 3), 5 + gap + 3, answer)

    def test_each_gap_counts(self):
        self.check(10, (5, 15, 25, 35), 45, True)
        self.check(10, (5, 16, 25, 35), 45, False)
        self.check(10, (5, 15, 26, 35), 45, False)
        self.check(10, (5, 15, 25, 36), 45, False)
        self.check(10, (5, 15, 15, 25), 30, False)
        self.check(10, (5, 15, 14, 20), 30, False)

    def test_years_that_come_back_do_not_rise(self):
        self.check(10, (5, 4, 6), 7, False)
        self.check(10, (9, 5), 9, False)
        self.check(10, (9, 5), 10, False)

    def test_the_day_by_the_last_number(self):
        self.check(10, (5, 12), 11, False)
        self.check(10, (5, 12), 12, True)
        self.check(10, (5, 12), 22, True)
        self.check(10, (5, 12), 23, False)
        self.check(1, (5, 6), 5, False)
        self.check(1, (5, 6), 7, True)
        self.check(1, (5, 6), 8, False)
        self.check(400, (1, 400), 800, True)
        self.check(400, (1, 400), 801, False)

    def test_numbers_below_nought(self):
        self.check(10, (-5,), -5, True)
        self.check(10, (-5,), 5, True)
        self.check(10, (-5,), 6, False)
        self.check(10, (-5,), -6, False)
        self.check(10, (-15, -5, 5), 5, True)
        self.check(10, (-16, -5), 0, False)
        self.check(10, (-5, -15), -10, False)
        self.check(10, (0,), 0, True)
        self.check(10, (0,), -1, False)

    def test_numbers_of_forty_figures(self):
        self.check(10, (HUGE,), HUGE, True)
        self.check(10, (HUGE - 10,), HUGE, True)
        self.check(10, (HUGE - 11,), HUGE, False)
        self.check(10, (HUGE - 20, HUGE - 10), HUGE, True)
        self.check(10, (HUGE - 21, HUGE - 10), HUGE, False)
        self.check(10, (-HUGE, -HUGE + 10), -HUGE + 20, True)
        self.check(10, (-HUGE, -HUGE + 10), -HUGE + 21, False)
        self.check(10, (-HUGE,), HUGE, False)
        self.check(10, (5,), HUGE, False)
        self.check(10, (5,), -HUGE, False)
        self.check(10, (-HUGE, HUGE), HUGE, False)

    def test_years_need_not_be_days(self):
        self.check(400, (0, 400, 800), 1200, True)
        self.check(3, (399, 401, 404), 407, True)

    def test_all_short_tuples(self):
        numbers = range(-3, 4)
        tuples = [(one,) for one in numbers] + [(one, two) for one in numbers for two in numbers]
        tuples += [(one, two, three) for one in numbers for two in numbers for three in numbers]
        for term in (1, 2, 3):
            for years in tuples:
                steps = [years[k + 1] - years[k] for k in range(len(years) - 1)]
                sound = all(step in range(1, term + 1) for step in steps)
                for day in range(-4, 9):
                    self.check(term, years, day, sound and day in range(years[-1], years[-1] + term + 1))

    def test_years_that_are_counted_hold(self):
        source = random.Random(15)
        for round_number in range(200):
            term = source.choice((1, 3, 10, 50))
            days = sorted(source.sample(range(1, 401), source.randint(1, 40)))
            years, last = tuple(counted(term, days)), through(term, days)
            self.check(term, years, last, True)
            self.check(term, years, last + 1, False)
            self.check(term, years, years[-1] - 1, False)


if __name__ == "__main__":
    unittest.main()
