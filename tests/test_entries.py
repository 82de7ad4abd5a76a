"""Point 17: what digs and payments bring, as the entries of a field tell it."""

import unittest

from dipright.field import Field

SIZE = (8, 6, 3)
ALL = (0, 0, 7, 5)
EAST = ("vein", (1, 1, 1), ((1, 1), (1, 2), (5, 1)))
STRAIGHT = ("vein", (0, 0, 0), ((2, 1), (3, 1), (0, 5)))
# The claim 3 of folk 1 has the outcrop (1, 1) alone, the claim 4 of folk 2 the ground east of it.
GROUNDS = [(1, EAST), (2, STRAIGHT), (3, ("stake", 1, 1, 1, 1, 1)), (4, ("stake", 2, 2, 0, 7, 5))]


def made(facts, term=100):
    field = Field(*SIZE, term)
    for day, fact in facts:
        field.enter(day, fact)
    return field


def dig(who, mouth, spot, worth):
    return ("dig", who) + mouth + spot + (worth,)


class DigTest(unittest.TestCase):
    def entries(self, *facts, term=100):
        return made(GROUNDS + list(facts), term).entries()

    def test_none_without_digs_and_payments(self):
        self.assertEqual(made([]).entries(), [])
        self.assertEqual(self.entries((5, ("work", 3)), (6, ("sell", 3, 9)), (7, ("give", 4))), [])

    def test_on_ones_own_spot_by_ones_own_mouth(self):
        self.assertEqual(self.entries((9, dig(1, (1, 1), (4, 1, 3), 50))), [])
        self.assertEqual(self.entries((9, dig(2, (2, 0), (2, 0, 3), 50))), [])

    def test_on_anothers_spot_from_open_ground(self):
        self.assertEqual(self.entries((9, dig(7, (0, 0), (4, 1, 3), 50))), [(9, 7, 1, 500)])
        self.assertEqual(self.entries((9, dig(7, (0, 0), (4, 1, 2), 50))), [(9, 7, 2, 500)])

    def test_on_an_open_spot_from_open_ground(self):
        self.assertEqual(self.entries((9, dig(7, (0, 0), (0, 0, 3), 50))), [])

    def test_on_an_open_spot_through_anothers_ground(self):
        self.assertEqual(self.entries((9, dig(7, (2, 0), (0, 0, 3), 50))), [(9, 7, 2, 50)])

    def test_on_ones_own_spot_through_anothers_ground(self):
        self.assertEqual(self.entries((9, dig(1, (4, 1), (4, 1, 3), 50))), [(9, 1, 2, 50)])

    def test_on_anothers_spot_through_ones_own_ground(self):
        self.assertEqual(self.entries((9, dig(2, (4, 1), (4, 1, 3), 50))), [(9, 2, 1, 500)])

    def test_the_ore_first_and_then_the_toll(self):
        self.assertEqual(self.entries((9, dig(7, (4, 1), (4, 1, 3), 50))), [(9, 7, 1, 500), (9, 7, 2, 50)])
        self.assertEqual(self.entries((9, dig(7, (1, 1), (4, 1, 2), 50))), [(9, 7, 2, 500), (9, 7, 1, 50)])

    def test_both_for_one_claim(self):
        self.assertEqual(self.entries((9, dig(7, (4, 1), (4, 1, 2), 50))), [(9, 7, 2, 500), (9, 7, 2, 50)])

    def test_both_for_two_claims_of_one_owner(self):
        told = self.entries((8, ("sell", 4, 1)), (9, dig(7, (4, 1), (4, 1, 3), 50)))
        self.assertEqual(told, [(9, 7, 1, 500), (9, 7, 1, 50)])

    def test_the_worth_at_its_bounds(self):
        self.assertEqual(self.entries((9, dig(7, (4, 1), (4, 1, 3), 1))), [(9, 7, 1, 10), (9, 7, 2, 1)])
        told = self.entries((9, dig(40, (4, 1), (4, 1, 3), 10 ** 6)))
        self.assertEqual(told, [(9, 40, 1, 10 ** 7), (9, 40, 2, 10 ** 6)])

    def test_ore_need_not_be_there(self):
        self.assertEqual(self.entries((9, dig(7, (0, 0), (6, 5, 2), 50))), [(9, 7, 2, 500)])

    def test_the_toll_is_the_eldest_ones_over_the_mouth(self):
        more = [(5, ("stake", 3, *ALL)), (6, ("stake", 4, 0, 0, 3, 5))]
        self.assertEqual(self.entries(*more, (9, dig(3, (2, 0), (0, 0, 0), 50))), [(9, 3, 2, 50)])
        self.assertEqual(self.entries(*more, (9, dig(2, (2, 0), (0, 0, 0), 50))), [(9, 2, 3, 500)])
        self.assertEqual(self.entries(*more, (9, dig(4, (0, 0), (0, 0, 0), 50))), [(9, 4, 3, 500), (9, 4, 3, 50)])

    def test_the_toll_goes_by_ground_and_not_by_dip(self):
        self.assertEqual(self.entries((9, dig(7, (2, 1), (0, 0, 0), 50))), [(9, 7, 2, 50)])
        self.assertEqual(self.entries((9, dig(7, (1, 2), (0, 0, 0), 50))), [])

    def test_the_mouth_is_not_the_spot(self):
        self.assertEqual(self.entries((9, dig(7, (0, 0), (5, 5, 1), 50))), [(9, 7, 2, 500)])
        self.assertEqual(self.entries((9, dig(7, (5, 5), (0, 0, 1), 50))), [(9, 7, 2, 50)])
        self.assertEqual(self.entries((9, dig(7, (0, 5), (5, 0, 1), 50))), [(9, 7, 2, 500)])
        self.assertEqual(self.entries((9, dig(7, (5, 0), (0, 5, 1), 50))), [(9, 7, 2, 50)])

    def test_claims_that_do_not_stand_take_nothing(self):
        unvested = [(1, ("stake", 1, *ALL)), (9, dig(7, (4, 1), (4, 1, 3), 50))]
        self.assertEqual(made(unvested).entries(), [])
        self.assertEqual(self.entries((5, ("give", 4)), (9, dig(7, (4, 1), (4, 1, 2), 50))), [])
        self.assertEqual(self.entries((5, ("give", 3)), (9, dig(7, (1, 1), (4, 1, 3), 50))), [(9, 7, 2, 500)])
        self.assertEqual(self.entries((14, dig(7, (4, 1), (4, 1, 3), 50)), term=10), [(14, 7, 2, 500), (14, 7, 2, 50)])
        self.assertEqual(self.entries((15, dig(7, (4, 1), (4, 1, 3), 50)), term=10), [])

    def test_an_idle_dig_brings_no_entry(self):
        first = (9, dig(7, (0, 0), (4, 1, 3), 50))
        told = self.entries(first, (10, dig(7, (4, 1), (4, 1, 3), 60)), (11, dig(8, (4, 1), (4, 1, 3), 60)))
        self.assertEqual(told, [(9, 7, 1, 500)])

    def test_by_the_owner_of_the_day(self):
        told = self.entries(
            (5, dig(7, (0, 0), (4, 1, 3), 1)),
            (6, ("sell", 3, 9)),
            (7, dig(7, (0, 0), (3, 1, 2), 2)),
            (8, ("sell", 3, 7)),
            (9, dig(7, (0, 0), (2, 1, 1), 3)),
        )
        self.assertEqual(told, [(5, 7, 1, 10), (7, 7, 9, 20)])

    def test_by_the_joins_known_on_the_day(self):
        veins = [(1, STRAIGHT), (2, EAST)]
        digs = [(5, dig(7, (0, 0), (3, 1, 2), 1)), (7, dig(7, (0, 0), (4, 1, 3), 2))]
        self.assertEqual(made(veins + GROUNDS[2:] + digs).entries(), [(5, 7, 1, 10), (7, 7, 1, 20)])
        joined = digs[:1] + [(6, ("join", 2, 1, 2))] + digs[1:]
        self.assertEqual(made(veins + GROUNDS[2:] + joined).entries(), [(5, 7, 1, 10), (7, 7, 2, 20)])

    def test_entries_stay_what_they_were(self):
        field = made(GROUNDS + [(5, dig(7, (4, 1), (4, 1, 3), 5)), (6, dig(1, (4, 1), (5, 5, 3), 6))])
        before = [(5, 7, 1, 50), (5, 7, 2, 5), (6, 1, 2, 60), (6, 1, 2, 6)]
        self.assertEqual(field.entries(), before)
        for day, fact in ((7, ("sell", 3, 9)), (8, ("sell", 4, 7)), (9, ("part", 4, 0, 4, 9)), (10, ("give", 3)),
                          (11, ("give", 4)), (12, EAST), (13, ("stake", 7, *ALL)), (14, ("work", 9))):
            self.assertEqual(field.enter(day, fact), "good")
            self.assertEqual(field.entries(), before)
        field.pass_to(400)
        self.assertEqual(field.entries(), before)


class PayTest(unittest.TestCase):
    def test_a_payment(self):
        self.assertEqual(made([(5, ("pay", 1, 2, 30))]).entries(), [(5, 2, 1, 300)])
        self.assertEqual(made([(400, ("pay", 40, 1, 10 ** 6))]).entries(), [(400, 1, 40, 10 ** 7)])
        self.assertEqual(made([(1, ("pay", 1, 40, 1))]).entries(), [(1, 40, 1, 10)])

    def test_payments_are_not_drawn_together(self):
        told = made([(5, ("pay", 1, 2, 30)), (6, ("pay", 2, 1, 30)), (7, ("pay", 1, 2, 30))]).entries()
        self.assertEqual(told, [(5, 2, 1, 300), (6, 1, 2, 300), (7, 2, 1, 300)])

    def test_in_the_order_of_days(self):
        field = made(GROUNDS + [
            (9, ("pay", 7, 1, 3)), (10, dig(7, (4, 1), (4, 1, 3), 50)), (11, ("pay", 2, 1, 3)), (100, dig(1, (4, 1), (5, 1, 3), 50)),
        ], term=400)
        self.assertEqual(field.entries(), [
            (9, 1, 7, 30), (10, 7, 1, 500), (10, 7, 2, 50), (11, 1, 2, 30), (100, 1, 2, 500), (100, 1, 2, 50),
        ])

    def test_the_kinds_and_the_callers_own_list(self):
        field = made([(5, ("pay", 1, 2, 30))])
        self.assertIs(type(field.entries()), list)
        self.assertTrue(all(type(entry) is tuple for entry in field.entries()))
        self.assertTrue(all(type(number) is int for entry in field.entries() for number in entry))
        field.entries().clear()
        self.assertEqual(field.entries(), [(5, 2, 1, 300)])


if __name__ == "__main__":
    unittest.main()
