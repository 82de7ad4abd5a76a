"""Points 22 and 23: the spells of a spot, the tenures of a claim, and what differs between two diaries."""

import random
import unittest

from dipright.diary import Diary
from dipright.errors import BadNumber, OutOfGround
from dipright.spells import differs, spells, tenures
from dipright.title import title
from helper import HUGE, Asked, all_of, beyond, kept, kinds, random_facts, spots_of, titles_of

SIZE = (7, 5, 3)
ALL = (0, 0, 6, 4)
NO_DAYS = (0, -1, -2, -400, 401, 402, 1000, HUGE, -HUGE)
EAST = ("vein", (1, 1, 1), ((1, 1), (4, 2)))


def stake(who, *ground):
    return ("stake", who) + ground


def by_days(told):
    """What is told of each day, as pairs."""
    return [(day, thing) for first, last, thing in told for day in range(first, last + 1)]


class SpellsTest(Asked):
    def check_form(self, told, last):
        self.assertIs(type(told), list)
        self.assertTrue(all(type(one) is tuple and len(one) == 3 for one in told))
        self.assertTrue(all(type(number) is int for one in told for number in one[:2]))
        self.assertEqual([day for day, claim in by_days(told)], list(range(1, last + 1)))
        for ahead, behind in zip(told, told[1:]):
            self.assertNotEqual(ahead[2], behind[2])

    def check(self, term, facts, spot, last, told):
        diary = kept(SIZE, term, facts)
        before = all_of(diary)
        answer = spells(diary, spot, last)
        self.assertEqual(answer, told)
        self.check_form(answer, last)
        self.assertEqual(all_of(diary), before)
        for shorter in (1, last // 2 + 1, last - 1):
            if 1 <= shorter < last:
                self.assertEqual(by_days(spells(diary, spot, shorter)), by_days(told)[:shorter])

    def test_always_open(self):
        for last in (1, 2, 50, 399, 400):
            self.check(10, [], (0, 0, 0), last, [(1, last, None)])
            self.check(10, [(5, EAST), (6, stake(1, 0, 0, 1, 1))], (6, 4, 3), last, [(1, last, None)])

    def test_one_claim_all_along(self):
        facts = [(2, EAST), (1, stake(1, *ALL))]
        self.check(400, facts, (0, 0, 0), 400, [(1, 1, None), (2, 400, 1)])

    def test_never_open_but_on_the_first_day(self):
        self.check(400, [(1, EAST), (2, stake(1, *ALL))], (0, 0, 0), 300, [(1, 1, None), (2, 300, 2)])

    def test_staked(self):
        facts = [(3, EAST), (5, stake(1, *ALL))]
        self.check(100, facts, (0, 0, 0), 50, [(1, 4, None), (5, 50, 5)])
        self.check(100, facts, (0, 0, 0), 4, [(1, 4, None)])
        self.check(100, facts, (0, 0, 0), 5, [(1, 4, None), (5, 5, 5)])
        self.check(100, facts, (0, 0, 0), 6, [(1, 4, None), (5, 6, 5)])

    def test_vested_later(self):
        self.check(100, [(5, stake(1, *ALL)), (12, EAST)], (0, 0, 0), 50, [(1, 11, None), (12, 50, 5)])

    def test_sold(self):
        facts = [(3, EAST), (5, stake(1, *ALL)), (9, ("sell", 5, 2))]
        self.check(100, facts, (0, 0, 0), 50, [(1, 4, None), (5, 50, 5)])

    def test_parted(self):
        facts = [(3, EAST), (5, stake(1, *ALL)), (9, ("part", 5, 0, 3, 2)), (12, ("part", 9, 1, 2, 3))]
        self.check(100, facts, (0, 0, 0), 50, [(1, 4, None), (5, 50, 5)])
        self.check(100, facts, (6, 0, 0), 50, [(1, 4, None), (5, 8, 5), (9, 50, 9)])
        self.check(100, facts, (6, 4, 0), 50, [(1, 4, None), (5, 8, 5), (9, 11, 9), (12, 50, 12)])

    def test_given_up(self):
        facts = [(3, EAST), (5, stake(1, *ALL)), (9, ("give", 5))]
        self.check(100, facts, (0, 0, 0), 50, [(1, 4, None), (5, 8, 5), (9, 50, None)])
        self.check(100, facts + [(7, stake(2, *ALL))], (0, 0, 0), 50, [(1, 4, None), (5, 8, 5), (9, 50, 7)])

    def test_fallen_and_staked_anew(self):
        facts = [(3, EAST), (5, stake(1, *ALL)), (9, ("work", 5)), (30, stake(1, *ALL))]
        told = [(1, 4, None), (5, 19, 5), (20, 29, None), (30, 40, 30), (41, 400, None)]
        self.check(10, facts, (0, 0, 0), 400, told)
        for last in range(1, 60):
            cut = [(first, min(end, last), claim) for first, end, claim in told if first <= last]
            self.assertEqual(spells(kept(SIZE, 10, facts), (0, 0, 0), last), cut)

    def test_staked_anew_on_the_day_of_falling(self):
        facts = [(3, EAST), (5, stake(1, *ALL)), (16, stake(1, *ALL))]
        self.check(10, facts, (0, 0, 0), 100, [(1, 4, None), (5, 15, 5), (16, 26, 16), (27, 100, None)])

    def test_falling_between_facts_and_behind_the_last_one(self):
        facts = [(3, EAST), (5, stake(1, *ALL)), (7, stake(2, *ALL)), (30, ("pay", 1, 2, 3)), (31, stake(3, *ALL))]
        told = [(1, 4, None), (5, 15, 5), (16, 17, 7), (18, 30, None), (31, 41, 31), (42, 100, None)]
        self.check(10, facts, (0, 0, 0), 100, told)

    def test_from_one_to_another_and_back(self):
        """Claim 6 reaches the spot by dip as long as its vein doesn't go on elsewhere."""
        facts = [(2, ("vein", (0, 0, 0), ((6, 4),))), (3, EAST), (5, stake(1, 2, 0, 6, 4)), (6, stake(2, 1, 1, 1, 1)), (9, ("join", 3, 2, 2))]
        self.check(100, facts, (4, 1, 3), 20, [(1, 4, None), (5, 5, 5), (6, 8, 6), (9, 20, 5)])
        self.check(100, facts, (6, 4, 3), 20, [(1, 4, None), (5, 20, 5)])

    def test_told_in_any_order_and_struck_out(self):
        facts = [(3, EAST), (5, stake(1, *ALL)), (9, ("give", 5))]
        diary = kept(SIZE, 100, facts[::-1])
        self.assertEqual(spells(diary, (0, 0, 0), 20), [(1, 4, None), (5, 8, 5), (9, 20, None)])
        diary.strike(9)
        self.assertEqual(spells(diary, (0, 0, 0), 20), [(1, 4, None), (5, 20, 5)])
        diary.undo()
        diary.strike(5)
        self.assertEqual(spells(diary, (0, 0, 0), 20), [(1, 20, None)])

    def test_a_change_on_the_last_day_of_all(self):
        facts = [(3, EAST), (5, stake(1, *ALL)), (400, ("give", 5))]
        self.check(400, facts, (0, 0, 0), 400, [(1, 4, None), (5, 399, 5), (400, 400, None)])
        self.check(1, [(3, EAST), (399, stake(1, *ALL))], (0, 0, 0), 400, [(1, 398, None), (399, 400, 399)])

    def test_refusals(self):
        for diary in (Diary(*SIZE, 10), kept(SIZE, 10, [(3, EAST), (5, stake(1, *ALL))])):
            before = all_of(diary)
            for spot in beyond(SIZE):
                for last in (1, 5, 400):
                    self.refused(OutOfGround, spells, diary, spot, last)
                for last in NO_DAYS:
                    self.refused(BadNumber, spells, diary, spot, last)
            for last in NO_DAYS:
                for spot in ((0, 0, 0), (6, 4, 3)):
                    self.refused(BadNumber, spells, diary, spot, last)
            self.assertEqual(all_of(diary), before)

    def test_a_list_of_the_callers_own(self):
        diary = kept(SIZE, 10, [(3, EAST), (5, stake(1, *ALL))])
        before = spells(diary, (0, 0, 0), 20)
        spells(diary, (0, 0, 0), 20).clear()
        spells(diary, (0, 0, 0), 20).append((21, 22, 5))
        self.assertEqual(spells(diary, (0, 0, 0), 20), before)
        self.assertEqual(kinds(before), ("list", (
            ("tuple", ("int", "int", "NoneType")), ("tuple", ("int", "int", "int")), ("tuple", ("int", "int", "NoneType")),
        )))

    def test_a_told_field_that_goes_on_changes_nothing(self):
        diary = kept(SIZE, 10, [(3, EAST), (5, stake(1, *ALL))])
        diary.field(6).enter(7, ("give", 5))
        self.assertEqual(spells(diary, (0, 0, 0), 20), [(1, 4, None), (5, 15, 5), (16, 20, None)])
        self.assertEqual(tenures(diary, 5, 20), [(5, 15, 1)])

    def test_as_the_fields_tell_day_by_day(self):
        for seed in range(6):
            source = random.Random(seed)
            size, term = (4, 3, 2), source.choice((5, 15, 60))
            facts = random_facts(source, size, term, 35)
            diary = kept(size, term, source.sample(facts, len(facts)))
            last = facts[-1][0] + source.randint(0, 2 * term)
            fields = [diary.field(day) for day in range(1, last + 1)]
            for spot in spots_of(size):
                told = spells(diary, spot, last)
                self.check_form(told, last)
                self.assertEqual([claim for day, claim in by_days(told)], [title(field, spot) for field in fields])


class TenuresTest(Asked):
    def check(self, term, facts, claim, last, told):
        diary = kept(SIZE, term, facts)
        before = all_of(diary)
        answer = tenures(diary, claim, last)
        self.assertEqual(answer, told)
        self.assertEqual(kinds(answer), ("list", (("tuple", ("int", "int", "int")),) * len(told)))
        self.assertEqual(all_of(diary), before)

    def test_in_one_stretch(self):
        facts = [(3, EAST), (5, stake(7, *ALL))]
        self.check(10, facts, 5, 400, [(5, 15, 7)])
        self.check(10, facts, 5, 16, [(5, 15, 7)])
        self.check(10, facts, 5, 15, [(5, 15, 7)])
        self.check(10, facts, 5, 14, [(5, 14, 7)])
        self.check(10, facts, 5, 5, [(5, 5, 7)])
        self.check(10, facts, 5, 4, [])
        self.check(10, facts, 5, 1, [])

    def test_from_the_day_of_vesting(self):
        self.check(10, [(5, stake(7, *ALL)), (9, EAST)], 5, 50, [(9, 15, 7)])
        self.check(10, [(5, stake(7, *ALL)), (9, EAST)], 5, 8, [])
        self.check(10, [(5, stake(7, *ALL)), (6, ("sell", 5, 8)), (9, EAST)], 5, 50, [(9, 15, 8)])

    def test_in_none(self):
        self.check(10, [(5, stake(7, *ALL))], 5, 400, [])
        self.check(10, [(5, stake(7, *ALL)), (16, EAST)], 5, 400, [])
        self.check(10, [(5, stake(7, *ALL)), (6, ("give", 5)), (7, EAST)], 5, 400, [])

    def test_sold_to_another_and_to_himself(self):
        facts = [(3, EAST), (5, stake(7, *ALL)), (8, ("sell", 5, 7)), (9, ("sell", 5, 8)), (10, ("sell", 5, 8)), (11, ("sell", 5, 7))]
        self.check(10, facts, 5, 400, [(5, 8, 7), (9, 10, 8), (11, 15, 7)])
        self.check(10, facts, 5, 10, [(5, 8, 7), (9, 10, 8)])
        self.check(10, facts, 5, 9, [(5, 8, 7), (9, 9, 8)])
        self.check(10, facts, 5, 8, [(5, 8, 7)])

    def test_given_up(self):
        self.check(10, [(3, EAST), (5, stake(7, *ALL)), (9, ("give", 5))], 5, 400, [(5, 8, 7)])
        self.check(10, [(3, EAST), (5, stake(7, *ALL)), (6, ("give", 5))], 5, 400, [(5, 5, 7)])

    def test_worked(self):
        self.check(10, [(3, EAST), (5, stake(7, *ALL)), (15, ("work", 5)), (20, ("sell", 5, 9))], 5, 400, [(5, 19, 7), (20, 25, 9)])

    def test_a_piece(self):
        facts = [(3, EAST), (5, stake(7, *ALL)), (9, ("part", 5, 0, 3, 8)), (12, ("sell", 9, 6)), (13, ("work", 9)), (14, ("give", 5))]
        self.check(10, facts, 9, 400, [(9, 11, 8), (12, 23, 6)])
        self.check(10, facts, 9, 8, [])
        self.check(10, facts, 5, 400, [(5, 13, 7)])

    def test_a_piece_of_one_that_is_not_vested(self):
        facts = [(5, stake(7, *ALL)), (9, ("part", 5, 0, 3, 8)), (12, EAST)]
        self.check(10, facts, 9, 400, [(12, 15, 8)])
        self.check(10, facts, 5, 400, [(12, 15, 7)])

    def test_a_claim_that_is_not_known(self):
        """Also the day of a vein, of work, of an idle parting, and of a stake that comes later or was struck out."""
        facts = [(3, EAST), (5, stake(7, *ALL)), (6, ("work", 5)), (7, ("part", 5, 0, 20, 8)), (50, stake(7, *ALL)), (60, stake(8, *ALL))]
        for claim in (1, 2, 3, 4, 6, 7, 8, 400, 401, 0, -1, -5, HUGE, -HUGE):
            self.check(10, facts, claim, 400, [])
        self.check(10, facts, 50, 49, [])
        self.check(10, facts, 50, 400, [(50, 60, 7)])
        diary = kept(SIZE, 10, facts)
        diary.strike(50)
        self.assertEqual(tenures(diary, 50, 400), [])
        self.assertEqual(tenures(Diary(*SIZE, 10), 5, 400), [])

    def test_it_stands_whether_a_spot_is_its_own_or_not(self):
        facts = [(3, EAST), (5, stake(7, *ALL)), (6, stake(8, *ALL))]
        self.check(10, facts, 6, 400, [(6, 16, 8)])

    def test_refusals(self):
        for diary in (Diary(*SIZE, 10), kept(SIZE, 10, [(3, EAST), (5, stake(1, *ALL))])):
            for last in NO_DAYS:
                for claim in (5, 6, -1, HUGE):
                    self.refused(BadNumber, tenures, diary, claim, last)

    def test_a_list_of_the_callers_own(self):
        diary = kept(SIZE, 10, [(3, EAST), (5, stake(1, *ALL))])
        tenures(diary, 5, 20).clear()
        tenures(diary, 5, 20).append((21, 22, 5))
        self.assertEqual(tenures(diary, 5, 20), [(5, 15, 1)])

    def test_as_the_fields_tell_day_by_day(self):
        for seed in range(6):
            source = random.Random(seed)
            size, term = (4, 3, 2), source.choice((5, 15, 60))
            facts = random_facts(source, size, term, 40)
            diary = kept(size, term, source.sample(facts, len(facts)))
            last = facts[-1][0] + source.randint(0, 2 * term)
            fields = [diary.field(day) for day in range(1, last + 1)]
            for claim in range(1, last + 2):
                told = tenures(diary, claim, last)
                days = [(field.today(), field.claim(claim)[0]) for field in fields if claim in field.standing()]
                self.assertEqual(by_days(told), days)
                for ahead, behind in zip(told, told[1:]):
                    self.assertNotEqual(ahead[2], behind[2])


class DiffersTest(Asked):
    def check(self, one, other, day, told):
        before = (all_of(one), all_of(other))
        answer = differs(one, other, day)
        self.assertEqual(answer, told)
        self.assertEqual(differs(other, one, day), [(spot, second, first) for spot, first, second in told])
        self.assertIs(type(answer), list)
        for spot, first, second in answer:
            self.assertEqual(kinds(spot), ("tuple", ("int",) * 3))
        self.assertEqual((all_of(one), all_of(other)), before)

    def test_a_diary_and_its_twin(self):
        for facts in ([], [(3, EAST), (5, stake(1, *ALL))]):
            diary = kept(SIZE, 10, facts)
            for day in (1, 5, 15, 400):
                self.check(diary, diary.twin(), day, [])
                self.check(diary, diary, day, [])
                self.check(diary, diary.known(len(facts)), day, [])

    def test_a_stake_more(self):
        one = kept(SIZE, 10, [(3, EAST)])
        other = kept(SIZE, 10, [(5, stake(1, 0, 0, 1, 1)), (3, EAST)])
        self.check(one, other, 4, [])
        spots = sorted([(x, y, floor) for x in (0, 1) for y in (0, 1) for floor in range(4)] + [(2, 1, 1), (3, 1, 2), (4, 1, 3)])
        for day in (5, 15):
            self.check(one, other, day, [(spot, None, 5) for spot in spots])
        self.check(one, other, 16, [])

    def test_a_stake_in_each(self):
        one = kept(SIZE, 10, [(3, EAST), (5, stake(1, 0, 0, 1, 1))])
        other = kept(SIZE, 10, [(3, EAST), (6, stake(1, 1, 1, 1, 1))])
        spots = [(0, 0), (0, 1), (1, 0)]
        ground = [((x, y, floor), 5, None) for x, y in spots for floor in range(4)]
        both = [(spot, 5, 6) for spot in [(1, 1, floor) for floor in range(4)] + [(2, 1, 1), (3, 1, 2), (4, 1, 3)]]
        self.check(one, other, 8, sorted(ground + both))

    def test_rising_by_spots(self):
        answer = differs(kept(SIZE, 10, [(3, EAST)]), kept(SIZE, 10, [(3, EAST), (5, stake(1, *ALL))]), 7)
        self.assertEqual(answer, [(spot, None, 5) for spot in spots_of(SIZE)])

    def test_the_same_claim_of_another_owner_is_no_difference(self):
        one = kept(SIZE, 10, [(3, EAST), (5, stake(1, *ALL))])
        self.check(one, kept(SIZE, 10, [(3, EAST), (5, stake(2, *ALL))]), 8, [])
        self.check(one, kept(SIZE, 10, [(3, EAST), (5, stake(1, *ALL)), (6, ("sell", 5, 2))]), 8, [])

    def test_unlike_terms(self):
        facts = [(3, EAST), (5, stake(1, 0, 0, 0, 1)), (6, stake(2, 0, 0, 1, 1)), (9, stake(3, 4, 2, 4, 2))]
        one, other = kept(SIZE, 10, facts), kept(SIZE, 12, facts)
        self.check(one, other, 16, [])
        self.check(one, other, 17, [((x, y, floor), None, 6) for x, y in ((0, 0), (0, 1), (1, 0)) for floor in range(4)]
                   + [(spot, None, 6) for spot in [(1, 1, floor) for floor in range(4)] + [(2, 1, 1), (3, 1, 2), (4, 1, 3)]])
        self.check(one, other, 19, [])
        self.check(one, other, 20, [(spot, None, 9) for spot in [(4, 2, floor) for floor in range(4)] + [(5, 2, 1), (6, 2, 2)]])

    def test_no_day(self):
        one, other = kept(SIZE, 10, [(3, EAST)]), kept(SIZE, 10, [(3, EAST), (5, stake(1, *ALL))])
        for day in NO_DAYS:
            self.refused(BadNumber, differs, one, other, day)
            self.refused(BadNumber, differs, one, one, day)

    def test_only_facts_up_to_the_day_count(self):
        one = kept(SIZE, 10, [(3, EAST), (5, stake(1, *ALL))])
        other = one.twin()
        other.tell(9, ("give", 5))
        self.check(one, other, 8, [])
        self.check(one, other, 9, [(spot, 5, None) for spot in spots_of(SIZE)])

    def test_a_list_of_the_callers_own(self):
        one, other = kept(SIZE, 10, [(3, EAST)]), kept(SIZE, 10, [(3, EAST), (5, stake(1, *ALL))])
        before = differs(one, other, 8)
        differs(one, other, 8).clear()
        self.assertEqual(differs(one, other, 8), before)

    def test_the_greatest_district(self):
        one, other = Diary(24, 24, 12, 10), Diary(24, 24, 12, 10)
        other.tell(1, ("vein", (0,) * 12, ((23, 23),)))
        other.tell(2, stake(1, 0, 0, 23, 23))
        self.assertEqual(differs(one, other, 5), [(spot, None, 2) for spot in spots_of((24, 24, 12))])

    def test_as_the_fields_tell(self):
        for seed in range(8):
            source = random.Random(seed)
            size = (source.randint(1, 5), source.randint(1, 5), source.randint(0, 3))
            facts = random_facts(source, size, 20, 40)
            one = kept(size, 20, [pair for pair in facts if source.random() < 0.8])
            other = kept(size, source.choice((20, 15)), [pair for pair in facts if source.random() < 0.8])
            for day in (1, 10, 30, 60):
                first, second = titles_of(one.field(day)), titles_of(other.field(day))
                told = [(spot, first[spot], second[spot]) for spot in spots_of(size) if first[spot] != second[spot]]
                self.check(one, other, day, told)


if __name__ == "__main__":
    unittest.main()
