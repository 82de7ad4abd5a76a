"""Points 13 and 14: the heirs of a spot, to whom it belongs, and the ore held and open."""

import random
import unittest

from dipright.errors import DiprightError, OutOfGround
from dipright.field import Field
from dipright.title import heirs, holdings, open_ore, over, owner, title
from dipright.veins import ore

HUGE = 10 ** 40 - 1  # the greatest number of 40 figures
SIZE = (8, 6, 3)
ALL = (0, 0, 7, 5)
EAST = ("vein", (1, 1, 1), ((1, 1), (1, 2), (5, 1)))
STRAIGHT = ("vein", (0, 0, 0), ((2, 1), (3, 1), (0, 5)))
OUTSIDE = (
    (-1, 2, 1), (8, 2, 1), (3, -1, 1), (3, 6, 1), (3, 2, -1), (3, 2, 4), (7, 6, 3), (8, 5, 3), (7, 5, 4), (-1, 0, 0),
    (0, -1, 0), (0, 0, -1), (HUGE, 0, 0), (0, HUGE, 0), (0, 0, HUGE), (-HUGE, -HUGE, -HUGE),
)


def made(term, facts, size=SIZE):
    field = Field(*size, term)
    for day, fact in facts:
        field.enter(day, fact)
    return field


def stake(who, *ground):
    return ("stake", who) + ground


def spots_of(size):
    return [(x, y, floor) for x in range(size[0]) for y in range(size[1]) for floor in range(size[2] + 1)]


class HeirsTest(unittest.TestCase):
    def check(self, field, spot, told):
        answer = heirs(field, spot)
        self.assertEqual(answer, told)
        self.assertIs(type(answer), list)
        self.assertTrue(all(type(pair) is tuple for pair in answer))
        first = told[0][0] if told else None
        self.assertEqual(title(field, spot), first)
        self.assertEqual(owner(field, spot), None if first is None else field.claim(first)[0])

    def test_nobody(self):
        self.check(made(100, []), (0, 0, 0), [])
        self.check(made(100, [(1, EAST)]), (1, 1, 0), [])
        self.check(made(100, [(1, EAST), (2, stake(1, 0, 0, 1, 1))]), (4, 4, 1), [])

    def test_by_dip(self):
        field = made(100, [(1, EAST), (2, stake(7, 0, 0, 1, 1))])
        self.check(field, (1, 1, 0), [(2, "dip")])
        self.check(field, (4, 1, 3), [(2, "dip")])

    def test_by_ground(self):
        field = made(100, [(1, EAST), (2, stake(7, 0, 0, 1, 1))])
        self.check(field, (0, 0, 0), [(2, "ground")])
        self.check(field, (1, 1, 3), [(2, "ground")])

    def test_by_ground_where_a_vein_is_that_nobody_follows(self):
        field = made(100, [(1, EAST), (2, STRAIGHT), (3, stake(7, 0, 0, 2, 0)), (4, ("pay", 1, 2, 3)), (5, stake(8, 3, 1, 4, 1))])
        self.assertEqual((field.state(3), field.state(5)), ("unvested", "stands"))
        self.check(field, (4, 1, 3), [(5, "ground")])
        self.check(field, (3, 1, 3), [(5, "dip")])
        self.check(field, (4, 1, 1), [(5, "ground")])

    def test_by_dip_ahead_of_by_ground(self):
        field = made(100, [
            (1, EAST), (2, STRAIGHT), (3, stake(1, 3, 1, 5, 1)), (4, stake(2, 1, 1, 1, 1)), (5, stake(3, *ALL)), (6, stake(4, 4, 0, 5, 5)),
        ])
        self.assertEqual(field.standing(), [3, 4, 5, 6])
        self.check(field, (4, 1, 3), [(4, "dip"), (5, "dip"), (3, "ground"), (6, "ground")])
        self.check(field, (4, 1, 2), [(3, "ground"), (5, "ground"), (6, "ground")])

    def test_a_younger_claim_follows_its_vein_under_an_elder_ones_ground(self):
        field = made(100, [(1, STRAIGHT), (2, stake(1, 2, 0, 7, 5)), (3, EAST), (4, stake(2, 1, 1, 1, 1))])
        self.assertEqual(field.standing(), [2, 4])
        self.check(field, (2, 1, 1), [(2, "dip"), (4, "dip")])
        self.check(field, (4, 1, 3), [(4, "dip"), (2, "ground")])
        self.check(field, (4, 2, 3), [(2, "ground")])

    def test_each_once_however_many_columns(self):
        field = made(100, [(1, STRAIGHT), (2, EAST), (3, stake(1, 1, 1, 2, 1)), (4, stake(2, *ALL))])
        self.check(field, (2, 1, 1), [(3, "dip"), (4, "dip")])

    def test_the_eldest_first_not_the_least_day(self):
        field = made(100, [
            (2, stake(1, 2, 1, 2, 1)), (3, stake(2, 0, 2, 2, 2)), (4, EAST), (5, stake(3, 1, 1, 2, 1)), (6, STRAIGHT),
        ])
        self.assertEqual(field.standing(), [3, 5, 2])
        self.check(field, (2, 1, 1), [(5, "dip"), (2, "dip")])
        self.check(field, (2, 1, 3), [(5, "dip"), (2, "dip")])
        self.check(field, (2, 2, 1), [(3, "dip")])
        self.check(field, (2, 2, 3), [(3, "ground")])

    def test_elder_grounds_first(self):
        field = made(100, [(2, stake(1, *ALL)), (3, stake(2, 0, 0, 1, 2)), (4, EAST), (5, stake(3, *ALL))])
        self.check(field, (0, 0, 2), [(2, "ground"), (3, "ground"), (5, "ground")])

    def test_standing_claims_alone(self):
        facts = [(1, EAST), (2, stake(1, *ALL)), (3, stake(2, *ALL)), (4, stake(3, *ALL)), (5, stake(4, 4, 4, 7, 5))]
        field = made(10, facts)
        self.check(field, (4, 4, 2), [(2, "ground"), (3, "ground"), (4, "ground")])
        field.enter(6, ("give", 3))
        self.check(field, (4, 4, 2), [(2, "ground"), (4, "ground")])
        self.check(field, (2, 1, 1), [(2, "dip"), (4, "dip")])
        field.pass_to(12)
        self.check(field, (2, 1, 1), [(2, "dip"), (4, "dip")])
        field.pass_to(13)
        self.check(field, (2, 1, 1), [(4, "dip")])
        field.pass_to(15)
        self.check(field, (2, 1, 1), [])
        self.check(field, (4, 4, 2), [])

    def test_an_unvested_claim_inherits_nothing(self):
        field = made(100, [(1, stake(1, *ALL)), (2, stake(2, 4, 4, 7, 5))])
        self.check(field, (4, 4, 2), [])
        field.enter(3, EAST)
        self.check(field, (4, 4, 2), [(1, "ground")])

    def test_behind_a_parting(self):
        field = made(100, [(1, EAST), (2, stake(1, *ALL)), (3, stake(2, *ALL)), (4, ("part", 2, 0, 3, 9))])
        self.check(field, (4, 1, 3), [(2, "dip"), (3, "dip"), (4, "ground")])
        self.check(field, (6, 1, 1), [(4, "dip"), (3, "dip")])
        self.check(field, (2, 1, 1), [(2, "dip"), (3, "dip")])
        self.check(field, (5, 5, 0), [(4, "ground"), (3, "ground")])

    def test_behind_a_sale(self):
        field = made(100, [(1, EAST), (2, stake(1, *ALL)), (3, ("sell", 2, 40))])
        self.check(field, (4, 1, 3), [(2, "dip")])
        self.assertEqual(owner(field, (4, 1, 3)), 40)

    def test_along_a_join(self):
        facts = [(1, STRAIGHT), (2, EAST), (3, stake(1, 2, 1, 2, 1)), (4, stake(2, 1, 1, 1, 1)), (5, ("join", 2, 1, 2))]
        ahead, behind = made(100, facts[:-1]), made(100, facts)
        self.check(ahead, (2, 1, 2), [(3, "dip")])
        self.check(ahead, (4, 1, 3), [(4, "dip")])
        self.check(behind, (2, 1, 2), [(3, "dip"), (4, "dip")])
        self.check(behind, (4, 1, 3), [])
        self.check(behind, (2, 1, 1), [(3, "dip"), (4, "dip")])

    def test_digging_changes_no_title(self):
        field = made(100, [(1, EAST), (2, stake(1, 1, 1, 1, 1)), (3, ("dig", 9, 0, 0, 2, 1, 1, 5))])
        self.check(field, (2, 1, 1), [(2, "dip")])

    def test_out_of_ground(self):
        for field in (made(100, []), made(100, [(1, EAST), (2, stake(1, *ALL))])):
            for call in (heirs, title, owner):
                for spot in OUTSIDE:
                    with self.assertRaises(OutOfGround, msg=repr((call, spot))) as caught:
                        call(field, spot)
                    self.assertIs(type(caught.exception), OutOfGround)
                    self.assertIsInstance(caught.exception, DiprightError)

    def test_the_edges(self):
        field = made(100, [(1, EAST), (2, stake(1, *ALL))])
        for spot in ((0, 0, 0), (7, 5, 3), (7, 0, 3), (0, 5, 0)):
            self.check(field, spot, [(2, "ground")])

    def test_a_list_of_the_callers_own(self):
        field = made(100, [(1, EAST), (2, stake(1, *ALL)), (3, stake(2, *ALL))])
        heirs(field, (1, 1, 0)).reverse()
        heirs(field, (1, 1, 0)).clear()
        self.check(field, (1, 1, 0), [(2, "dip"), (3, "dip")])
        self.assertEqual(field.standing(), [2, 3])


class OverTest(unittest.TestCase):
    def test_the_eldest_standing_claim(self):
        field = made(10, [(1, STRAIGHT), (2, stake(1, 0, 0, 2, 2)), (3, stake(2, 2, 1, 7, 5)), (4, stake(3, *ALL))])
        self.assertEqual(over(field, (0, 0)), 2)
        self.assertEqual(over(field, (2, 1)), 2)
        self.assertEqual(over(field, (2, 2)), 2)
        self.assertEqual(over(field, (3, 2)), 3)
        self.assertEqual(over(field, (2, 3)), 3)
        self.assertEqual(over(field, (0, 3)), 4)
        self.assertEqual(over(field, (7, 5)), 3)
        field.enter(5, ("give", 2))
        self.assertEqual(over(field, (0, 0)), 4)
        self.assertEqual(over(field, (2, 1)), 3)
        field.pass_to(14)
        self.assertEqual(over(field, (2, 1)), 4)
        field.pass_to(15)
        self.assertIsNone(over(field, (2, 1)))

    def test_none(self):
        self.assertIsNone(over(made(10, []), (0, 0)))
        field = made(10, [(1, stake(1, *ALL))])
        self.assertIsNone(over(field, (0, 0)))
        field.enter(2, EAST)
        self.assertEqual(over(field, (0, 0)), 1)

    def test_by_ground_alone_not_by_dip(self):
        field = made(100, [(1, EAST), (2, stake(1, 1, 1, 1, 1)), (3, STRAIGHT), (4, stake(2, 2, 1, 4, 1))])
        self.assertEqual(over(field, (2, 1)), 4)
        self.assertEqual(title(field, (2, 1, 1)), 2)
        self.assertEqual(over(field, (1, 1)), 2)
        self.assertIsNone(over(field, (1, 2)))

    def test_by_age_not_by_day(self):
        field = made(100, [(1, stake(1, 2, 1, 7, 5)), (2, stake(2, 0, 0, 2, 2)), (3, EAST), (4, STRAIGHT)])
        self.assertEqual(field.standing(), [1, 2])
        field = made(100, [(1, stake(1, 2, 1, 4, 5)), (2, stake(2, 0, 0, 2, 2)), (3, EAST), (4, STRAIGHT)])
        self.assertEqual(field.standing(), [2, 1])
        self.assertEqual(over(field, (2, 1)), 2)
        self.assertEqual(over(field, (2, 3)), 1)


class HoldingsTest(unittest.TestCase):
    def test_no_ore(self):
        field = made(100, [])
        self.assertEqual((holdings(field), open_ore(field)), ([], []))
        field = made(100, [(1, stake(1, *ALL))])
        self.assertEqual((holdings(field), open_ore(field)), ([], []))

    def test_ore_without_claims(self):
        field = made(100, [(1, EAST)])
        self.assertEqual(holdings(field), [])
        self.assertEqual(open_ore(field), ore(field))
        self.assertEqual(len(open_ore(field)), 4 + 4 + 3)

    def test_the_ore_of_one_claim(self):
        field = made(100, [(1, EAST), (2, stake(1, 1, 1, 1, 1))])
        self.assertEqual(holdings(field), [(2, 4)])
        self.assertEqual(open_ore(field), [
            (1, 2, 0), (2, 2, 1), (3, 2, 2), (4, 2, 3), (5, 1, 0), (6, 1, 1), (7, 1, 2),
        ])

    def test_ore_held_by_ground(self):
        field = made(100, [(1, EAST), (2, stake(1, 1, 1, 1, 1)), (3, STRAIGHT), (4, stake(2, 2, 1, 7, 5))])
        self.assertEqual(holdings(field), [(2, 4), (4, 12)])
        self.assertEqual(open_ore(field), [(0, 5, floor) for floor in range(4)] + [(1, 2, 0)])

    def test_claims_without_ore(self):
        field = made(100, [(1, EAST), (2, stake(1, *ALL)), (3, stake(2, *ALL)), (4, stake(3, 1, 1, 1, 1))])
        self.assertEqual(holdings(field), [(2, 11), (3, 0), (4, 0)])
        self.assertEqual(open_ore(field), [])

    def test_the_eldest_first(self):
        field = made(100, [(1, stake(1, 5, 0, 7, 5)), (2, stake(2, 2, 1, 3, 1)), (3, STRAIGHT), (4, EAST), (5, stake(3, 0, 0, 1, 5))])
        self.assertEqual(holdings(field), [(2, 8), (1, 3), (5, 10)])
        self.assertEqual(open_ore(field), [])

    def test_standing_claims_alone(self):
        field = made(10, [(1, EAST), (2, stake(1, *ALL)), (3, stake(2, 1, 1, 1, 1)), (4, ("give", 2))])
        self.assertEqual(holdings(field), [(3, 4)])
        field.pass_to(14)
        self.assertEqual((holdings(field), open_ore(field)), ([], ore(field)))

    def test_each_spot_where_columns_meet_counts_once(self):
        field = made(100, [(1, STRAIGHT), (2, STRAIGHT), (3, stake(1, *ALL))])
        self.assertEqual(holdings(field), [(3, 12)])

    def test_ore_that_is_dug_out_counts(self):
        field = made(100, [(1, STRAIGHT), (2, stake(1, *ALL)), (3, ("dig", 1, 0, 0, 2, 1, 0, 5)), (4, ("dig", 9, 0, 0, 3, 1, 1, 5))])
        self.assertEqual(holdings(field), [(2, 12)])

    def test_the_kinds_and_the_callers_own_lists(self):
        field = made(100, [(1, EAST), (2, stake(1, 1, 1, 1, 1))])
        for tell in (holdings, open_ore):
            before = tell(field)
            self.assertIs(type(before), list)
            self.assertTrue(all(type(one) is tuple for one in before))
            tell(field).clear()
            tell(field).append((9, 9))
            self.assertEqual(tell(field), before)
        self.assertTrue(all(type(number) is int for pair in holdings(field) for number in pair))

    def test_together_they_count_each_spot_once(self):
        source = random.Random(13)
        for round_number in range(40):
            size = (source.randint(1, 6), source.randint(1, 6), source.randint(0, 4))
            field = made(source.choice((10, 30)), [(day, self.random_fact(source, size)) for day in range(1, 25)], size)
            spots = ore(field)
            titles = {spot: title(field, spot) for spot in spots_of(size)}
            self.assertEqual(open_ore(field), [spot for spot in spots if titles[spot] is None])
            counts = [(name, sum(titles[spot] == name for spot in spots)) for name in field.standing()]
            self.assertEqual(holdings(field), counts)
            self.assertEqual(sum(many for name, many in holdings(field)) + len(open_ore(field)), len(spots))

    def random_fact(self, source, size):
        if source.random() < 0.3:
            ground = [(x, y) for x in range(size[0]) for y in range(size[1])]
            steps = tuple(source.randint(0, 4) for floor in range(size[2]))
            return ("vein", steps, tuple(source.sample(ground, min(3, len(ground)))))
        left, right = sorted((source.randrange(size[0]), source.randrange(size[0])))
        top, low = sorted((source.randrange(size[1]), source.randrange(size[1])))
        return stake(source.randint(1, 5), left, top, right, low)


if __name__ == "__main__":
    unittest.main()
