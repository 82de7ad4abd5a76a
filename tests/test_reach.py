"""Point 12: which claims reach a spot by dip, and which have the ground over it."""

import unittest

from dipright.errors import DiprightError, NoClaim, OutOfGround
from dipright.field import Field
from dipright.reach import by_dip, has_ground, reaching

HUGE = 10 ** 40 - 1  # the greatest number of 40 figures
SIZE = (8, 6, 3)
ALL = (0, 0, 7, 5)
EAST = ("vein", (1, 1, 1), ((1, 1), (1, 2), (5, 1)))
STRAIGHT = ("vein", (0, 0, 0), ((2, 1), (3, 1), (0, 5)))
# On each of the six sides, at corners and far away.
OUTSIDE = (
    (-1, 2, 1), (8, 2, 1), (3, -1, 1), (3, 6, 1), (3, 2, -1), (3, 2, 4), (7, 6, 3), (8, 5, 3), (7, 5, 4), (-1, 0, 0),
    (0, -1, 0), (0, 0, -1), (HUGE, 0, 0), (0, HUGE, 0), (0, 0, HUGE), (-HUGE, -HUGE, -HUGE),
)
EDGES = ((0, 0, 0), (7, 5, 3), (0, 5, 0), (7, 0, 3))


def made(term, facts):
    field = Field(*SIZE, term)
    for day, fact in facts:
        field.enter(day, fact)
    return field


def stake(who, *ground):
    return ("stake", who) + ground


class Asked(unittest.TestCase):
    def refused(self, kind, call, *handed):
        with self.assertRaises(kind, msg=repr(handed)) as caught:
            call(*handed)
        self.assertIs(type(caught.exception), kind)
        self.assertIsInstance(caught.exception, DiprightError)


class ByDipTest(Asked):
    def test_down_the_dip(self):
        field = made(100, [(3, EAST), (5, stake(1, 0, 0, 1, 1))])
        self.assertEqual(by_dip(field, 5, (1, 1, 0)), [(3, 0)])
        self.assertEqual(by_dip(field, 5, (2, 1, 1)), [(3, 0)])
        self.assertEqual(by_dip(field, 5, (4, 1, 3)), [(3, 0)])

    def test_not_where_no_column_is(self):
        field = made(100, [(3, EAST), (5, stake(1, 0, 0, 1, 1))])
        for spot in ((1, 1, 1), (0, 0, 0), (2, 1, 0), (2, 1, 2), (4, 2, 3), (4, 1, 2)):
            self.assertEqual(by_dip(field, 5, spot), [], spot)

    def test_not_by_an_outcrop_beside_its_ground(self):
        field = made(100, [(3, EAST), (5, stake(1, 0, 0, 1, 1)), (6, stake(1, 2, 0, 7, 5))])
        self.assertEqual(by_dip(field, 5, (1, 2, 0)), [])
        self.assertEqual(by_dip(field, 5, (2, 2, 1)), [])
        self.assertEqual(by_dip(field, 6, (2, 1, 1)), [])
        self.assertEqual(by_dip(field, 6, (6, 1, 1)), [(3, 2)])

    def test_the_ground_over_the_spot_does_not_matter(self):
        field = made(100, [(3, EAST), (5, stake(1, 4, 1, 4, 1))])
        self.assertEqual(by_dip(field, 5, (4, 1, 3)), [])
        self.assertIs(has_ground(field, 5, (4, 1, 3)), True)

    def test_several_columns(self):
        field = made(100, [(2, STRAIGHT), (3, EAST), (5, stake(1, *ALL)), (6, stake(2, 0, 0, 1, 5)), (7, stake(3, 2, 0, 2, 5))])
        self.assertEqual(by_dip(field, 5, (2, 1, 1)), [(2, 0), (3, 0)])
        self.assertEqual(by_dip(field, 6, (2, 1, 1)), [(3, 0)])
        self.assertEqual(by_dip(field, 7, (2, 1, 1)), [(2, 0)])
        self.assertEqual(by_dip(field, 5, (3, 1, 2)), [(2, 1), (3, 0)])
        self.assertEqual(by_dip(field, 5, (0, 5, 3)), [(2, 2)])

    def test_pairs_rise(self):
        veins = [(day, ("vein", (0, 0, 0), ((0, 0), (2, 1), (1, 0)))) for day in (2, 9, 10, 11, 100)]
        field = made(400, veins + [(101, stake(1, *ALL))])
        self.assertEqual(by_dip(field, 101, (2, 1, 2)), [(2, 1), (9, 1), (10, 1), (11, 1), (100, 1)])

    def test_along_a_join(self):
        facts = [(2, STRAIGHT), (3, EAST), (4, stake(1, 1, 1, 1, 2)), (5, stake(2, 2, 1, 3, 1)), (6, ("join", 3, 2, 2))]
        ahead, behind = made(100, facts[:-1]), made(100, facts)
        self.assertEqual(by_dip(ahead, 4, (3, 1, 2)), [(3, 0)])
        self.assertEqual(by_dip(behind, 4, (3, 1, 2)), [(3, 1)])
        self.assertEqual(by_dip(behind, 4, (2, 1, 2)), [(3, 0)])
        self.assertEqual(by_dip(behind, 4, (2, 1, 1)), [(3, 0)])
        self.assertEqual(by_dip(behind, 5, (2, 1, 2)), [(2, 0)])
        self.assertEqual(by_dip(behind, 4, (4, 1, 3)), [])
        self.assertEqual(by_dip(ahead, 4, (4, 1, 3)), [(3, 0)])

    def test_the_ground_as_it_is_by_now(self):
        field = made(100, [(3, EAST), (5, stake(1, 0, 0, 7, 5)), (6, ("part", 5, 1, 2, 2)), (7, ("part", 5, 0, 5, 2))])
        self.assertEqual([by_dip(field, name, (2, 1, 1)) for name in (5, 6, 7)], [[(3, 0)], [], []])
        self.assertEqual([by_dip(field, name, (2, 2, 1)) for name in (5, 6, 7)], [[], [(3, 1)], []])
        self.assertEqual([by_dip(field, name, (6, 1, 1)) for name in (5, 6, 7)], [[], [], [(3, 2)]])

    def test_a_list_of_the_callers_own(self):
        field = made(100, [(3, EAST), (5, stake(1, 0, 0, 1, 1))])
        told = by_dip(field, 5, (2, 1, 1))
        self.assertIs(type(told), list)
        self.assertTrue(all(type(pair) is tuple for pair in told))
        told.append((9, 9))
        by_dip(field, 5, (0, 0, 0)).append((9, 9))
        self.assertEqual(by_dip(field, 5, (2, 1, 1)), [(3, 0)])
        self.assertEqual(by_dip(field, 5, (0, 0, 0)), [])


class HasGroundTest(Asked):
    def test_under_its_cells_on_each_floor(self):
        field = made(100, [(5, stake(1, 2, 1, 4, 3))])
        for x in range(8):
            for y in range(6):
                for floor in range(4):
                    answer = 2 <= x <= 4 and 1 <= y <= 3
                    self.assertIs(has_ground(field, 5, (x, y, floor)), answer, (x, y, floor))

    def test_the_ground_as_it_is_by_now(self):
        field = made(100, [(5, stake(1, 2, 1, 4, 3)), (6, ("part", 5, 0, 3, 1))])
        self.assertIs(has_ground(field, 5, (3, 1, 2)), False)
        self.assertIs(has_ground(field, 6, (3, 1, 2)), True)
        self.assertIs(has_ground(field, 5, (2, 1, 2)), True)
        self.assertIs(has_ground(field, 6, (2, 1, 2)), False)


class StatesTest(Asked):
    def setUp(self):
        facts = [
            (1, stake(1, 1, 1, 1, 1)),   # will have fallen
            (2, EAST),
            (5, stake(2, 1, 1, 1, 1)),   # will be given up
            (6, stake(3, 4, 4, 5, 5)),   # unvested
            (7, stake(4, 1, 1, 1, 1)),   # stands
            (8, ("give", 5)),
            (12, ("pay", 1, 2, 3)),
        ]
        self.field = made(10, facts)

    def test_the_states_are_so(self):
        states = [self.field.state(name) for name in (1, 5, 6, 7)]
        self.assertEqual(states, ["fallen", "given", "unvested", "stands"])

    def test_in_any_state(self):
        for name in (1, 5, 7):
            self.assertEqual(by_dip(self.field, name, (3, 1, 2)), [(2, 0)])
            self.assertIs(has_ground(self.field, name, (1, 1, 3)), True)
            self.assertIs(has_ground(self.field, name, (3, 1, 2)), False)
        self.assertEqual(by_dip(self.field, 6, (3, 1, 2)), [])
        self.assertIs(has_ground(self.field, 6, (5, 5, 3)), True)

    def test_reaching_in_any_state(self):
        self.assertEqual(reaching(self.field, (3, 1, 2)), [1, 5, 7])
        self.assertEqual(reaching(self.field, (1, 1, 3)), [1, 5, 7])
        self.assertEqual(reaching(self.field, (4, 4, 2)), [6])
        self.assertEqual(reaching(self.field, (7, 5, 2)), [])

    def test_an_unvested_claim_may_reach_by_dip(self):
        field = made(10, [(1, stake(1, 1, 1, 1, 1)), (2, ("give", 1)), (3, EAST), (4, stake(2, 3, 1, 3, 1))])
        self.assertIsNone(field.claim(1)[3])
        self.assertEqual(by_dip(field, 1, (3, 1, 2)), [(3, 0)])
        self.assertEqual(reaching(field, (3, 1, 2)), [1, 4])

    def test_the_day_does_not_matter(self):
        self.field.pass_to(400)
        self.assertEqual(reaching(self.field, (3, 1, 2)), [1, 5, 7])
        self.assertEqual(by_dip(self.field, 7, (3, 1, 2)), [(2, 0)])


class ReachingTest(Asked):
    def test_by_dip_or_by_ground_each_once(self):
        field = made(100, [
            (2, STRAIGHT), (3, EAST), (10, stake(1, 1, 1, 2, 2)), (11, stake(1, 2, 1, 2, 1)), (12, stake(1, 1, 1, 1, 1)),
            (13, stake(1, 7, 5, 7, 5)), (14, stake(1, *ALL)), (15, stake(1, 2, 0, 2, 0)),
        ])
        self.assertEqual(reaching(field, (2, 1, 1)), [10, 11, 12, 14])
        self.assertEqual(reaching(field, (2, 1, 3)), [10, 11, 14])
        self.assertEqual(reaching(field, (2, 0, 3)), [14, 15])
        self.assertEqual(reaching(field, (7, 5, 0)), [13, 14])

    def test_rising_by_days_not_by_age(self):
        field = made(100, [
            (8, stake(1, 0, 0, 0, 0)), (9, stake(1, 2, 1, 2, 1)), (10, EAST), (11, stake(1, 1, 1, 1, 1)), (12, STRAIGHT),
        ])
        self.assertEqual(field.standing(), [11, 9])
        self.assertEqual(reaching(field, (2, 1, 1)), [9, 11])

    def test_no_claim_at_all(self):
        self.assertEqual(reaching(made(100, []), (0, 0, 0)), [])
        self.assertEqual(reaching(made(100, [(1, EAST)]), (1, 1, 0)), [])

    def test_a_list_of_the_callers_own(self):
        field = made(100, [(3, EAST), (5, stake(1, 0, 0, 1, 1))])
        told = reaching(field, (2, 1, 1))
        self.assertIs(type(told), list)
        told.append(9)
        self.assertEqual(reaching(field, (2, 1, 1)), [5])
        self.assertEqual(field.claims(), [5])


class RefusalTest(Asked):
    def setUp(self):
        self.field = made(100, [(3, EAST), (5, stake(1, *ALL)), (9, ("work", 5))])

    def test_no_claim(self):
        for name in (3, 4, 6, 9, 0, -5, 400, 401, HUGE, -HUGE):
            for spot in EDGES + ((2, 1, 1),):
                self.refused(NoClaim, by_dip, self.field, name, spot)
                self.refused(NoClaim, has_ground, self.field, name, spot)

    def test_out_of_ground(self):
        for spot in OUTSIDE:
            self.refused(OutOfGround, by_dip, self.field, 5, spot)
            self.refused(OutOfGround, has_ground, self.field, 5, spot)
            self.refused(OutOfGround, reaching, self.field, spot)

    def test_out_of_ground_where_nothing_is_known(self):
        for spot in OUTSIDE:
            self.refused(OutOfGround, reaching, made(100, []), spot)
            self.refused(OutOfGround, has_ground, made(100, [(5, stake(1, 0, 0, 0, 0))]), 5, spot)
            self.refused(OutOfGround, by_dip, made(100, [(5, stake(1, 0, 0, 0, 0))]), 5, spot)

    def test_no_claim_ahead_of_out_of_ground(self):
        for spot in OUTSIDE:
            self.refused(NoClaim, by_dip, self.field, 4, spot)
            self.refused(NoClaim, has_ground, self.field, 4, spot)

    def test_the_edges_are_in_the_ground(self):
        for spot in EDGES:
            self.assertEqual(by_dip(self.field, 5, spot), [])
            self.assertIs(has_ground(self.field, 5, spot), True)
            self.assertEqual(reaching(self.field, spot), [5])


if __name__ == "__main__":
    unittest.main()
