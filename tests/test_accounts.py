"""Points 17 and 18: what one owes another, balances and the settlement."""

import random
import unittest

from dipright.accounts import balance, owes, settlement
from dipright.errors import BadNumber
from dipright.field import Field
from helper import HUGE, Asked, entered, kinds, random_facts

SIZE = (8, 6, 3)
ALL = (0, 0, 7, 5)
FOLK = range(1, 41)
NO_FOLK = (0, -1, -2, -40, 41, 42, 100, 400, HUGE, -HUGE)
# Claim 2 of folk 1 has all the ground; so each dig by another one brings ten tenths of the worth, and one as toll.
GROUND = [(1, ("vein", (0, 0, 0), ((0, 0),))), (2, ("stake", 1) + ALL)]


def paid(*payments):
    """A field of payments (giver, taker, coins) alone."""
    return entered(SIZE, 100, [(day, ("pay",) + one) for day, one in enumerate(payments, start=1)])


def dug(*digs):
    """A field on which claim 2 of folk 1 is all the ground, and each pair (who, worth) digs a spot of its own."""
    facts = [(day, ("dig", who, 0, 0, day % 8, day // 8, 1, worth)) for day, (who, worth) in enumerate(digs, start=3)]
    return entered(SIZE, 100, GROUND + facts)


def table(field):
    return [[owes(field, one, other) for other in FOLK] for one in FOLK]


def told(field):
    return table(field), [balance(field, who) for who in FOLK], settlement(field)


def from_entries(field):
    """The same out of the entries, as point 18 says it."""
    def between(one, other):
        there = sum(entry[3] for entry in field.entries() if entry[1:3] == (one, other))
        return there - sum(entry[3] for entry in field.entries() if entry[1:3] == (other, one))

    rows = [[between(one, other) for other in FOLK] for one in FOLK]
    balances = [sum(rows[one][who] for one in range(40)) for who in range(40)]
    pairs = [(giver, taker) for giver in FOLK for taker in FOLK if between(giver, taker) >= 10]
    return rows, balances, [(giver, taker, between(giver, taker) // 10) for giver, taker in pairs]


class OwesTest(Asked):
    def test_no_entry(self):
        for field in (Field(*SIZE, 10), entered(SIZE, 10, GROUND)):
            self.assertEqual(table(field), [[0] * 40] * 40)

    def test_one_payment(self):
        field = paid((3, 5, 20))
        self.assertEqual((owes(field, 5, 3), owes(field, 3, 5)), (200, -200))
        self.assertEqual((owes(field, 3, 4), owes(field, 4, 5), owes(field, 3, 3), owes(field, 5, 5)), (0, 0, 0, 0))

    def test_one_dig(self):
        field = dug((7, 30))
        self.assertEqual(field.entries(), [(3, 7, 1, 300), (3, 7, 1, 30)])
        self.assertEqual((owes(field, 7, 1), owes(field, 1, 7)), (330, -330))

    def test_ore_and_toll_to_two(self):
        facts = [(1, ("vein", (1, 1, 1), ((1, 1), (5, 1)))), (2, ("stake", 1, 1, 1, 1, 1)), (3, ("stake", 2, 4, 0, 7, 5)),
                 (4, ("dig", 9, 4, 0, 4, 1, 3, 25))]
        field = entered(SIZE, 100, facts)
        self.assertEqual((owes(field, 9, 1), owes(field, 9, 2), owes(field, 1, 2)), (250, 25, 0))
        self.assertEqual((balance(field, 9), balance(field, 1), balance(field, 2)), (-275, 250, 25))

    def test_several_both_ways(self):
        field = paid((3, 5, 20), (5, 3, 7), (3, 5, 1), (3, 4, 9), (5, 4, 2), (4, 3, 10))
        self.assertEqual((owes(field, 5, 3), owes(field, 3, 5)), (140, -140))
        self.assertEqual((owes(field, 4, 3), owes(field, 3, 4)), (-10, 10))
        self.assertEqual((owes(field, 4, 5), owes(field, 5, 4)), (20, -20))

    def test_a_payment_against_a_dig(self):
        field = dug((7, 30))
        field.enter(50, ("pay", 7, 1, 33))
        self.assertEqual((owes(field, 7, 1), owes(field, 1, 7)), (0, 0))
        field.enter(51, ("pay", 7, 1, 2))
        self.assertEqual((owes(field, 7, 1), owes(field, 1, 7)), (-20, 20))

    def test_nought_for_one_and_the_same(self):
        field = paid(*[(who, 1 + who % 40, who) for who in FOLK])
        for who in FOLK:
            self.assertEqual(owes(field, who, who), 0)

    def test_a_dig_of_ones_own(self):
        self.assertEqual(told(dug((1, 30))), ([[0] * 40] * 40, [0] * 40, []))

    def test_at_both_bounds_of_the_folk(self):
        field = paid((1, 40, 3), (40, 2, 4), (39, 1, 10 ** 6))
        self.assertEqual((owes(field, 40, 1), owes(field, 1, 40), owes(field, 1, 39), owes(field, 2, 40)), (30, -30, 10 ** 7, 40))
        self.assertEqual((balance(field, 1), balance(field, 40)), (30 - 10 ** 7, 10))

    def test_no_folk(self):
        for field in (Field(*SIZE, 10), paid((1, 40, 3), (40, 2, 4))):
            before = told(field)
            for wrong in NO_FOLK:
                for right in (1, 2, 40):
                    self.refused(BadNumber, owes, field, wrong, right)
                    self.refused(BadNumber, owes, field, right, wrong)
                self.refused(BadNumber, owes, field, wrong, wrong)
                self.refused(BadNumber, owes, field, wrong, -wrong - 1)
                self.refused(BadNumber, balance, field, wrong)
            self.assertEqual(told(field), before)

    def test_entries_stay_what_they_were(self):
        field = dug((7, 30))
        for day, fact in ((50, ("sell", 2, 9)), (51, ("part", 2, 0, 4, 7)), (52, ("give", 2)), (53, ("stake", 7) + ALL)):
            self.assertEqual(field.enter(day, fact), "good")
            self.assertEqual((owes(field, 7, 1), owes(field, 7, 9), owes(field, 9, 1)), (330, 0, 0))
        field.pass_to(400)
        self.assertEqual(owes(field, 7, 1), 330)

    def test_the_kinds(self):
        field = paid((1, 40, 3))
        for number in (owes(field, 1, 40), owes(field, 1, 1), owes(field, 2, 3), balance(field, 1), balance(field, 2)):
            self.assertIs(type(number), int)


class BalanceTest(unittest.TestCase):
    def test_none(self):
        self.assertEqual([balance(Field(*SIZE, 10), who) for who in FOLK], [0] * 40)

    def test_what_all_others_owe(self):
        field = paid((3, 5, 20), (3, 4, 7), (5, 4, 1), (6, 3, 2))
        self.assertEqual([balance(field, who) for who in (3, 4, 5, 6, 7)], [250, -80, -190, 20, 0])

    def test_of_digs(self):
        field = dug((7, 30), (8, 5), (1, 100))
        self.assertEqual([balance(field, who) for who in (1, 7, 8, 9)], [385, -330, -55, 0])

    def test_all_come_to_nought(self):
        for seed in range(8):
            field = entered(SIZE, 20, random_facts(random.Random(seed), SIZE, 20, 80))
            self.assertTrue(field.entries())
            self.assertEqual(sum(balance(field, who) for who in FOLK), 0)
            for who in FOLK:
                self.assertEqual(balance(field, who), sum(owes(field, other, who) for other in FOLK))


class SettlementTest(unittest.TestCase):
    def test_without_entries(self):
        self.assertEqual(settlement(Field(*SIZE, 10)), [])
        self.assertEqual(settlement(entered(SIZE, 10, GROUND)), [])

    def tenths(self, many):
        """A field on which folk 7 owes folk 1 so many tenths: 11 for each coin dug, less ten for each one paid."""
        field = dug((7, many))
        if many > 0:
            field.enter(90, ("pay", 7, 1, many))
        self.assertEqual(owes(field, 7, 1), many)
        return field

    def test_nine_tenths_ten_and_eleven(self):
        self.assertEqual(settlement(self.tenths(1)), [])
        self.assertEqual(settlement(self.tenths(9)), [])
        self.assertEqual(settlement(self.tenths(10)), [(7, 1, 1)])
        self.assertEqual(settlement(self.tenths(11)), [(7, 1, 1)])
        self.assertEqual(settlement(self.tenths(19)), [(7, 1, 1)])
        self.assertEqual(settlement(self.tenths(20)), [(7, 1, 2)])
        self.assertEqual(settlement(self.tenths(21)), [(7, 1, 2)])

    def test_entries_both_ways(self):
        field = self.tenths(25)
        self.assertEqual(settlement(field), [(7, 1, 2)])
        field.enter(91, ("pay", 7, 1, 1))
        self.assertEqual((owes(field, 7, 1), settlement(field)), (15, [(7, 1, 1)]))
        field.enter(92, ("pay", 7, 1, 1))
        self.assertEqual((owes(field, 7, 1), settlement(field)), (5, []))
        field.enter(93, ("pay", 7, 1, 1))
        self.assertEqual((owes(field, 7, 1), owes(field, 1, 7), settlement(field)), (-5, 5, []))
        field.enter(94, ("pay", 7, 1, 1))
        self.assertEqual((owes(field, 1, 7), settlement(field)), (15, [(1, 7, 1)]))

    def test_payments_that_even_out(self):
        self.assertEqual(settlement(paid((3, 5, 4), (5, 3, 4))), [])
        self.assertEqual(settlement(paid((3, 5, 4), (5, 3, 3))), [(5, 3, 1)])

    def test_each_two_by_themselves(self):
        """What three owe in a round isn't drawn together."""
        self.assertEqual(settlement(paid((1, 2, 5), (2, 3, 5), (3, 1, 5))), [(1, 3, 5), (2, 1, 5), (3, 2, 5)])

    def test_rising_by_giver_and_then_by_taker(self):
        field = paid((9, 10, 1), (2, 10, 2), (10, 2, 1), (40, 1, 3), (3, 10, 4), (3, 2, 5), (10, 1, 6), (2, 1, 7), (1, 40, 8), (11, 2, 9))
        self.assertEqual(settlement(field), [
            (1, 2, 7), (1, 10, 6), (2, 3, 5), (2, 11, 9), (10, 2, 1), (10, 3, 4), (10, 9, 1), (40, 1, 5),
        ])

    def test_great_sums(self):
        field = paid((1, 2, 10 ** 6), (1, 2, 10 ** 6), (1, 2, 10 ** 6))
        self.assertEqual(settlement(field), [(2, 1, 3 * 10 ** 6)])

    def test_once_it_is_paid_the_rest_is_carried(self):
        for seed in range(20, 28):
            facts = random_facts(random.Random(seed), SIZE, 20, 80)
            field = entered(SIZE, 20, facts)
            rests = [[abs(tenths) % 10 for tenths in row] for row in table(field)]
            for day, triple in enumerate(settlement(field), start=field.today() + 1):
                self.assertEqual(field.enter(day, ("pay",) + triple), "good")
            self.assertEqual(settlement(field), [])
            self.assertEqual([[abs(tenths) for tenths in row] for row in table(field)], rests)
            self.assertEqual(from_entries(field), told(field))

    def test_the_kinds_and_the_callers_own_list(self):
        field = paid((3, 5, 4), (1, 2, 4))
        before = settlement(field)
        self.assertEqual(before, [(2, 1, 4), (5, 3, 4)])
        self.assertEqual(kinds(before), ("list", (("tuple", ("int",) * 3),) * 2))
        settlement(field).clear()
        settlement(field).append((1, 2, 3))
        settlement(field).reverse()
        self.assertEqual(settlement(field), before)


class FieldsTest(unittest.TestCase):
    def test_as_the_entries_say(self):
        for seed in range(40, 46):
            field = entered(SIZE, 20, random_facts(random.Random(seed), SIZE, 20, 80))
            self.assertEqual(told(field), from_entries(field))

    def test_asked_behind_each_fact_or_at_the_end_alone(self):
        for seed in range(60, 64):
            facts = random_facts(random.Random(seed), SIZE, 20, 60)
            asked, twins = Field(*SIZE, 20), []
            for many, (day, fact) in enumerate(facts):
                if many % 15 == 0:
                    twins.append((many, asked.twin()))
                asked.enter(day, fact)
                told(asked)
            last = told(entered(SIZE, 20, facts))
            self.assertEqual(told(asked), last)
            for many, twin in twins:
                self.assertEqual(told(twin), told(entered(SIZE, 20, facts[:many])))
                for day, fact in facts[many:]:
                    twin.enter(day, fact)
                self.assertEqual(told(twin), last)

    def test_a_field_and_its_twin_go_their_own_ways(self):
        field = dug((7, 30))
        twin = field.twin()
        field.enter(50, ("pay", 7, 1, 33))
        twin.enter(50, ("pay", 3, 4, 5))
        self.assertEqual((settlement(field), settlement(twin)), ([], [(4, 3, 5), (7, 1, 33)]))
        self.assertEqual((owes(field, 4, 3), owes(twin, 4, 3)), (0, 50))
        self.assertEqual((balance(field, 1), balance(twin, 1)), (0, 330))


if __name__ == "__main__":
    unittest.main()
