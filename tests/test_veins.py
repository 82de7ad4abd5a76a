"""Points 6, 7, 12 (its first sentence) and 14: where the columns of veins are, and the ore known."""

import random
import unittest

from dipright.errors import DiprightError, NoVein, OutOfGround
from dipright.field import Field
from dipright.veins import columns_at, courses, ore, own_course

HUGE = 10 ** 40 - 1  # the greatest number of 40 figures
STRAIGHT, EAST, WEST, SOUTH, NORTH = range(5)


def made(size, facts):
    field = Field(*size, 400)
    for day, fact in facts:
        if field.enter(day, fact) != "good":
            raise AssertionError(f"idle: {day} {fact}")
    return field


def own_cell(size, outcrop, steps, floor):
    """Point 6, told by itself: the cell of a column's own course on a floor, or None."""
    x, y = outcrop
    for step in steps[:floor]:
        x += (step == EAST) - (step == WEST)
        y += (step == SOUTH) - (step == NORTH)
        if x not in range(size[0]) or y not in range(size[1]):
            return None
    return x, y


def where(size, veins, joins, vein, column, floor):
    """Point 7, told by itself: the cell where a column is on a floor, or None."""
    steps, cells = veins[vein]
    if vein in joins and joins[vein][1] <= floor:
        other = joins[vein][0]
        if column >= len(veins[other][1]):
            return None
        return where(size, veins, joins, other, column, floor)
    return own_cell(size, cells[column], steps, floor)


def random_facts(source, size, days):
    wide, tall, deep = size
    ground = [(x, y) for x in range(wide) for y in range(tall)]
    facts, veins, joins = [], {}, {}
    for day in range(1, days + 1):
        free = [vein for vein in sorted(veins)[1:] if vein not in joins]
        if deep and free and source.random() < 0.45:
            vein = source.choice(free)
            other = source.choice([name for name in veins if name < vein])
            joins[vein] = (other, source.randint(1, deep))
            facts.append((day, ("join", vein) + joins[vein]))
        else:
            steps = tuple(source.randint(0, 4) for floor in range(deep))
            veins[day] = (steps, tuple(source.sample(ground, source.randint(1, min(16, len(ground))))))
            facts.append((day, ("vein",) + veins[day]))
    return facts, veins, joins


class OwnCourseTest(unittest.TestCase):
    def check(self, size, cell, steps, course):
        told = own_course(size, cell, steps)
        self.assertEqual(told, course)
        self.assertIs(type(told), list)
        self.assertTrue(all(type(one) is tuple and [type(n) for n in one] == [int, int] for one in told))

    def test_each_step(self):
        self.check((7, 5, 1), (3, 2), (STRAIGHT,), [(3, 2), (3, 2)])
        self.check((7, 5, 1), (3, 2), (EAST,), [(3, 2), (4, 2)])
        self.check((7, 5, 1), (3, 2), (WEST,), [(3, 2), (2, 2)])
        self.check((7, 5, 1), (3, 2), (SOUTH,), [(3, 2), (3, 3)])
        self.check((7, 5, 1), (3, 2), (NORTH,), [(3, 2), (3, 1)])

    def test_steps_one_behind_the_other(self):
        self.check((7, 5, 4), (3, 4), (0, 1, 2, 0), [(3, 4), (3, 4), (4, 4), (3, 4), (3, 4)])
        self.check((7, 5, 5), (3, 2), (1, 1, 3, 2, 4), [(3, 2), (4, 2), (5, 2), (5, 3), (4, 3), (4, 2)])

    def test_no_floor_below(self):
        self.check((7, 5, 0), (3, 2), (), [(3, 2)])
        self.check((1, 1, 0), (0, 0), (), [(0, 0)])

    def test_leaving_at_the_first_floor(self):
        self.check((7, 5, 3), (6, 2), (EAST, 0, 0), [(6, 2)])
        self.check((7, 5, 3), (0, 2), (WEST, 0, 0), [(0, 2)])
        self.check((7, 5, 3), (3, 4), (SOUTH, 0, 0), [(3, 4)])
        self.check((7, 5, 3), (3, 0), (NORTH, 0, 0), [(3, 0)])

    def test_leaving_later(self):
        self.check((7, 5, 3), (5, 2), (EAST, EAST, 0), [(5, 2), (6, 2)])
        self.check((7, 5, 3), (1, 2), (WEST, WEST, 0), [(1, 2), (0, 2)])
        self.check((7, 5, 3), (3, 3), (SOUTH, SOUTH, 0), [(3, 3), (3, 4)])
        self.check((7, 5, 3), (3, 1), (NORTH, NORTH, 0), [(3, 1), (3, 0)])
        self.check((7, 5, 3), (5, 2), (EAST, 0, EAST), [(5, 2), (6, 2), (6, 2)])

    def test_it_does_not_come_back(self):
        self.check((7, 5, 4), (6, 2), (EAST, WEST, WEST, 0), [(6, 2)])
        self.check((7, 5, 4), (0, 2), (WEST, EAST, EAST, 0), [(0, 2)])
        self.check((7, 5, 4), (3, 4), (SOUTH, NORTH, NORTH, 0), [(3, 4)])
        self.check((7, 5, 4), (3, 0), (NORTH, SOUTH, SOUTH, 0), [(3, 0)])
        self.check((7, 5, 4), (5, 2), (EAST, EAST, WEST, WEST), [(5, 2), (6, 2)])

    def test_wide_and_tall_are_not_mixed_up(self):
        self.check((7, 2, 2), (5, 1), (EAST, 0), [(5, 1), (6, 1), (6, 1)])
        self.check((2, 7, 2), (1, 5), (SOUTH, 0), [(1, 5), (1, 6), (1, 6)])
        self.check((2, 7, 2), (1, 5), (EAST, 0), [(1, 5)])
        self.check((7, 2, 2), (5, 1), (SOUTH, 0), [(5, 1)])

    def test_how_deep_does_not_bound_the_cells(self):
        self.check((7, 5, 1), (4, 3), (EAST,), [(4, 3), (5, 3)])
        self.check((3, 3, 12), (2, 2), (EAST,) * 12, [(2, 2)])

    def test_one_cell_wide(self):
        self.check((1, 1, 12), (0, 0), (0,) * 12, [(0, 0)] * 13)
        for step in (EAST, WEST, SOUTH, NORTH):
            self.check((1, 1, 3), (0, 0), (0, step, 0), [(0, 0)] * 2)

    def test_across_the_greatest_district(self):
        self.check((24, 24, 12), (0, 0), (EAST, SOUTH) * 6, [((k + 1) // 2, k // 2) for k in range(13)])
        self.check((24, 24, 12), (12, 23), (EAST,) * 12, [(12 + k, 23) for k in range(12)])
        self.check((24, 24, 12), (11, 23), (EAST,) * 12, [(11 + k, 23) for k in range(13)])

    def test_the_steps_stay_and_the_list_is_the_callers_own(self):
        steps = [0, 1, 3]
        told = own_course((7, 5, 3), (3, 2), steps)
        self.assertEqual(steps, [0, 1, 3])
        told.clear()
        self.assertEqual(own_course((7, 5, 3), (3, 2), steps), [(3, 2), (3, 2), (4, 2), (4, 3)])

    def test_floor_by_floor(self):
        source = random.Random(6)
        for round_number in range(500):
            size = (source.randint(1, 6), source.randint(1, 6), source.randint(0, 12))
            cell = (source.randrange(size[0]), source.randrange(size[1]))
            steps = tuple(source.randint(0, 4) for floor in range(size[2]))
            floors = [own_cell(size, cell, steps, floor) for floor in range(size[2] + 1)]
            self.check(size, cell, steps, [one for one in floors if one is not None])


class CoursesTest(unittest.TestCase):
    def check(self, size, facts, vein, told):
        answer = courses(made(size, facts), vein)
        self.assertEqual(answer, told)
        self.assertIs(type(answer), list)
        for course in answer:
            self.assertIs(type(course), list)
            self.assertTrue(all(cell is None or type(cell) is tuple for cell in course))

    def test_no_join(self):
        facts = [(3, ("vein", (0, 1, 3), ((1, 1), (4, 2))))]
        self.check((7, 5, 3), facts, 3, [[(1, 1), (1, 1), (2, 1), (2, 2)], [(4, 2), (4, 2), (5, 2), (5, 3)]])

    def test_no_floor_below(self):
        self.check((7, 5, 0), [(3, ("vein", (), ((1, 1), (4, 2))))], 3, [[(1, 1)], [(4, 2)]])

    def test_a_course_that_ends(self):
        facts = [(3, ("vein", (EAST, EAST, WEST), ((4, 1), (5, 1), (6, 1))))]
        self.check((7, 5, 3), facts, 3, [[(4, 1), (5, 1), (6, 1), (5, 1)], [(5, 1), (6, 1), None, None], [(6, 1)] + [None] * 3])

    def test_the_columns_keep_their_order(self):
        facts = [(3, ("vein", (0,), ((6, 4), (0, 0), (3, 2), (0, 4))))]
        self.check((7, 5, 1), facts, 3, [[(6, 4)] * 2, [(0, 0)] * 2, [(3, 2)] * 2, [(0, 4)] * 2])

    def joined_at(self, floor):
        return [
            (2, ("vein", (EAST, EAST, EAST), ((0, 0),))),
            (5, ("vein", (SOUTH, SOUTH, SOUTH), ((6, 0),))),
            (8, ("join", 5, 2, floor)),
        ]

    def test_a_join_at_each_floor(self):
        self.check((7, 5, 3), self.joined_at(1), 5, [[(6, 0), (1, 0), (2, 0), (3, 0)]])
        self.check((7, 5, 3), self.joined_at(2), 5, [[(6, 0), (6, 1), (2, 0), (3, 0)]])
        self.check((7, 5, 3), self.joined_at(3), 5, [[(6, 0), (6, 1), (6, 2), (3, 0)]])

    def test_the_other_one_keeps_its_course(self):
        for floor in (1, 2, 3):
            self.check((7, 5, 3), self.joined_at(floor), 2, [[(0, 0), (1, 0), (2, 0), (3, 0)]])

    def test_the_steps_of_the_vein_do_not_lead_on_from_the_join(self):
        facts = [
            (1, ("vein", (0, 0, 0, 0), ((0, 0),))),
            (2, ("vein", (EAST, EAST, EAST, EAST), ((1, 1),))),
            (3, ("join", 2, 1, 2)),
        ]
        self.check((7, 5, 4), facts, 2, [[(1, 1), (2, 1), (0, 0), (0, 0), (0, 0)]])

    def chain(self, first, second):
        """The vein 3 joins 2 at the first floor, and 2 joins 1 at the second one."""
        return [
            (1, ("vein", (0, 0, 0, 0), ((1, 1),))),
            (2, ("vein", (0, 0, 0, 0), ((2, 2),))),
            (3, ("vein", (0, 0, 0, 0), ((3, 3),))),
            (4, ("join", 3, 2, first)),
            (5, ("join", 2, 1, second)),
        ]

    def test_a_chain_at_rising_floors(self):
        self.check((5, 5, 4), self.chain(1, 3), 3, [[(3, 3), (2, 2), (2, 2), (1, 1), (1, 1)]])
        self.check((5, 5, 4), self.chain(1, 3), 2, [[(2, 2), (2, 2), (2, 2), (1, 1), (1, 1)]])
        self.check((5, 5, 4), self.chain(1, 3), 1, [[(1, 1)] * 5])

    def test_a_chain_at_falling_floors(self):
        self.check((5, 5, 4), self.chain(3, 1), 3, [[(3, 3), (3, 3), (3, 3), (1, 1), (1, 1)]])
        self.check((5, 5, 4), self.chain(3, 1), 2, [[(2, 2), (1, 1), (1, 1), (1, 1), (1, 1)]])

    def test_a_chain_at_one_floor(self):
        self.check((5, 5, 4), self.chain(2, 2), 3, [[(3, 3), (3, 3), (1, 1), (1, 1), (1, 1)]])

    def test_it_does_not_matter_which_join_came_first(self):
        facts = self.chain(1, 3)
        turned = facts[:3] + [(4, facts[4][1]), (5, facts[3][1])]
        self.check((5, 5, 4), turned, 3, [[(3, 3), (2, 2), (2, 2), (1, 1), (1, 1)]])

    def test_a_join_that_is_not_known_yet(self):
        self.check((5, 5, 4), self.chain(1, 3)[:4], 3, [[(3, 3), (2, 2), (2, 2), (2, 2), (2, 2)]])
        self.check((5, 5, 4), self.chain(1, 3)[:3], 3, [[(3, 3)] * 5])

    def test_the_other_one_with_fewer_columns(self):
        facts = [
            (1, ("vein", (0, 0), ((1, 1),))),
            (2, ("vein", (0, 0), ((2, 2), (3, 3), (4, 4)))),
            (3, ("join", 2, 1, 1)),
        ]
        self.check((5, 5, 2), facts, 2, [[(2, 2), (1, 1), (1, 1)], [(3, 3), None, None], [(4, 4), None, None]])

    def test_the_other_one_with_more_columns(self):
        facts = [
            (1, ("vein", (0, 0), ((2, 2), (3, 3), (4, 4)))),
            (2, ("vein", (0, 0), ((1, 1),))),
            (3, ("join", 2, 1, 2)),
        ]
        self.check((5, 5, 2), facts, 2, [[(1, 1), (1, 1), (2, 2)]])

    def test_a_column_that_is_missing_in_the_midst_of_a_chain(self):
        facts = [
            (1, ("vein", (0, 0), ((0, 0), (1, 0)))),
            (2, ("vein", (0, 0), ((2, 2),))),
            (3, ("vein", (0, 0), ((3, 3), (4, 4)))),
            (4, ("join", 3, 2, 1)),
            (5, ("join", 2, 1, 1)),
        ]
        self.check((5, 5, 2), facts, 3, [[(3, 3), (0, 0), (0, 0)], [(4, 4), None, None]])

    def test_its_own_course_ended_above_the_join(self):
        facts = [
            (1, ("vein", (0, 0, 0), ((1, 1),))),
            (2, ("vein", (EAST, 0, 0), ((4, 4),))),
            (3, ("join", 2, 1, 2)),
        ]
        self.check((5, 5, 3), facts, 2, [[(4, 4), None, (1, 1), (1, 1)]])

    def test_the_other_ones_course_ended_there(self):
        facts = [
            (1, ("vein", (WEST, WEST, EAST), ((1, 1), (4, 1)))),
            (2, ("vein", (0, 0, 0), ((3, 3), (4, 4)))),
            (3, ("join", 2, 1, 1)),
        ]
        self.check((5, 5, 3), facts, 2, [[(3, 3), (0, 1), None, None], [(4, 4), (3, 1), (2, 1), (3, 1)]])

    def test_several_veins_join_one(self):
        facts = [
            (1, ("vein", (0, 0), ((1, 1),))),
            (2, ("vein", (0, 0), ((2, 2),))),
            (3, ("vein", (0, 0), ((3, 3),))),
            (4, ("join", 3, 1, 2)),
            (5, ("join", 2, 1, 1)),
        ]
        self.check((5, 5, 2), facts, 2, [[(2, 2), (1, 1), (1, 1)]])
        self.check((5, 5, 2), facts, 3, [[(3, 3), (3, 3), (1, 1)]])

    def test_a_long_chain(self):
        facts = [(day, ("vein", (0,), ((0, day % 20),))) for day in range(1, 200)]
        facts += [(day + 199, ("join", day, day - 1, 1)) for day in range(2, 200)]
        self.check((1, 20, 1), facts, 199, [[(0, 19), (0, 1)]])
        field = made((1, 20, 1), facts)
        self.assertEqual(columns_at(field, (0, 1, 1)), [(day, 0) for day in range(1, 200)])
        self.assertEqual(columns_at(field, (0, 2, 1)), [])
        self.assertEqual(ore(field), sorted([(0, y, 0) for y in range(20)] + [(0, 1, 1)]))

    def test_no_such_vein(self):
        field = made((7, 5, 3), self.joined_at(1))
        for name in (1, 3, 4, 8, 6, 400, 0, -1, 401, HUGE, -HUGE):
            with self.assertRaises(NoVein) as caught:
                courses(field, name)
            self.assertIs(type(caught.exception), NoVein)
            self.assertIsInstance(caught.exception, DiprightError)
        with self.assertRaises(NoVein):
            courses(made((7, 5, 3), []), 1)

    def test_told_lists_may_be_changed(self):
        field = made((7, 5, 3), self.joined_at(2))
        for vein in (2, 5):
            before = courses(field, vein)
            again = courses(field, vein)
            for course in again:
                course.clear()
            again.append("more")
            again = courses(field, vein)
            again[0][1] = "changed"
            self.assertEqual(courses(field, vein), before)
        self.assertEqual(ore(field), ore(made((7, 5, 3), self.joined_at(2))))
        self.assertEqual(columns_at(field, (2, 0, 2)), [(2, 0), (5, 0)])
        self.assertEqual(columns_at(field, (6, 1, 1)), [(5, 0)])


class ColumnsAtTest(unittest.TestCase):
    def check(self, field, spot, told):
        answer = columns_at(field, spot)
        self.assertEqual(answer, told)
        self.assertIs(type(answer), list)
        self.assertTrue(all(type(pair) is tuple for pair in answer))

    def test_one_or_none(self):
        field = made((7, 5, 2), [(3, ("vein", (EAST, SOUTH), ((1, 1), (4, 2))))])
        self.check(field, (1, 1, 0), [(3, 0)])
        self.check(field, (2, 1, 1), [(3, 0)])
        self.check(field, (2, 2, 2), [(3, 0)])
        self.check(field, (5, 2, 1), [(3, 1)])
        self.check(field, (1, 1, 1), [])
        self.check(field, (2, 1, 0), [])
        self.check(field, (1, 2, 1), [])
        self.check(made((7, 5, 2), []), (1, 1, 0), [])

    def test_behind_a_leaving_there_is_none(self):
        field = made((3, 3, 2), [(1, ("vein", (EAST, WEST), ((2, 0),)))])
        self.check(field, (2, 0, 0), [(1, 0)])
        self.check(field, (2, 0, 1), [])
        self.check(field, (2, 0, 2), [])

    def test_several_veins_at_one_spot(self):
        field = made((5, 5, 2), [
            (2, ("vein", (0, 0), ((0, 0), (2, 2)))),
            (4, ("vein", (EAST, 0), ((1, 2),))),
            (9, ("vein", (WEST, 0), ((0, 4), (1, 4), (3, 2)))),
            (10, ("vein", (SOUTH, 0), ((2, 1),))),
        ])
        self.check(field, (2, 2, 1), [(2, 1), (4, 0), (9, 2), (10, 0)])
        self.check(field, (2, 2, 2), [(2, 1), (4, 0), (9, 2), (10, 0)])
        self.check(field, (2, 2, 0), [(2, 1)])
        self.check(field, (0, 4, 1), [(9, 1)])

    def test_veins_of_one_joint_course(self):
        facts = [(day, ("vein", (0, 0, 0), tuple((day, y) for y in range(6 - day)))) for day in (1, 2, 3, 4)]
        facts += [(5, ("join", 2, 1, 2)), (6, ("join", 4, 2, 1)), (7, ("join", 3, 2, 3))]
        field = made((6, 6, 3), facts)
        self.check(field, (1, 0, 1), [(1, 0)])
        self.check(field, (2, 0, 1), [(2, 0), (4, 0)])
        self.check(field, (2, 1, 1), [(2, 1), (4, 1)])
        self.check(field, (2, 2, 1), [(2, 2)])
        self.check(field, (1, 1, 2), [(1, 1), (2, 1), (4, 1)])
        self.check(field, (1, 1, 3), [(1, 1), (2, 1), (3, 1), (4, 1)])
        self.check(field, (1, 2, 3), [(1, 2), (2, 2), (3, 2)])
        self.check(field, (1, 4, 3), [(1, 4)])
        self.check(field, (4, 0, 0), [(4, 0)])
        self.check(field, (4, 0, 1), [])

    def test_a_column_behind_the_ninth(self):
        cells = tuple((x, 0) for x in range(16))
        field = made((16, 1, 1), [(100, ("vein", (0,), cells)), (101, ("vein", (EAST,), cells))])
        for x in range(16):
            self.check(field, (x, 0, 0), [(100, x), (101, x)])
            self.check(field, (x, 0, 1), [(100, x), (101, x - 1)] if x else [(100, 0)])

    def test_beside_the_district(self):
        field = made((7, 5, 3), [(1, ("vein", (0, 0, 0), ((0, 0), (6, 4))))])
        for spot in ((-1, 2, 1), (7, 2, 1), (3, -1, 1), (3, 5, 1), (3, 2, -1), (3, 2, 4), (6, 5, 3), (7, 4, 3), (6, 4, 4),
                     (-1, 0, 0), (0, -1, 0), (0, 0, -1), (HUGE, 0, 0), (0, -HUGE, 0), (0, 0, HUGE), (-1, -1, -1)):
            with self.assertRaises(OutOfGround) as caught:
                columns_at(field, spot)
            self.assertIs(type(caught.exception), OutOfGround)
            self.assertIsInstance(caught.exception, DiprightError)
        self.check(field, (0, 0, 0), [(1, 0)])
        self.check(field, (6, 4, 3), [(1, 1)])

    def test_told_lists_may_be_changed(self):
        field = made((7, 5, 3), [(1, ("vein", (0, 0, 0), ((0, 0), (6, 4))))])
        columns_at(field, (0, 0, 2)).append((9, 9))
        columns_at(field, (0, 1, 2)).append((9, 9))
        self.check(field, (0, 0, 2), [(1, 0)])
        self.check(field, (0, 1, 2), [])
        self.assertEqual(courses(field, 1), [[(0, 0)] * 4, [(6, 4)] * 4])


class OreTest(unittest.TestCase):
    def check(self, field, told):
        answer = ore(field)
        self.assertEqual(answer, told)
        self.assertIs(type(answer), list)
        self.assertTrue(all(type(spot) is tuple for spot in answer))

    def test_no_vein(self):
        self.check(made((7, 5, 3), []), [])

    def test_rising_by_x_then_y_then_floor(self):
        field = made((12, 12, 1), [(1, ("vein", (0,), ((10, 2), (2, 10), (2, 9), (9, 0))))])
        cells = [(2, 9), (2, 10), (9, 0), (10, 2)]
        self.check(field, [(x, y, floor) for x, y in cells for floor in (0, 1)])

    def test_each_spot_once(self):
        field = made((5, 5, 2), [
            (2, ("vein", (0, 0), ((2, 2),))),
            (4, ("vein", (EAST, 0), ((1, 2),))),
            (9, ("vein", (WEST, 0), ((2, 2),))),
        ])
        self.check(field, [(1, 2, 0), (1, 2, 1), (1, 2, 2), (2, 2, 0), (2, 2, 1), (2, 2, 2)])

    def test_none_where_columns_are_nowhere(self):
        field = made((3, 1, 2), [(2, ("vein", (EAST, WEST), ((1, 0), (2, 0))))])
        self.check(field, [(1, 0, 0), (1, 0, 2), (2, 0, 0), (2, 0, 1)])

    def test_a_join_moves_the_ore(self):
        facts = [(1, ("vein", (0, 0), ((0, 0),))), (2, ("vein", (0, 0), ((2, 0), (1, 0)))), (3, ("join", 2, 1, 1))]
        self.check(made((3, 1, 2), facts[:2]), [(x, 0, floor) for x in range(3) for floor in range(3)])
        self.check(made((3, 1, 2), facts), [(0, 0, 0), (0, 0, 1), (0, 0, 2), (1, 0, 0), (2, 0, 0)])

    def test_told_lists_may_be_changed(self):
        field = made((3, 1, 0), [(1, ("vein", (), ((1, 0),)))])
        ore(field).append((2, 0, 0))
        ore(field).clear()
        self.check(field, [(1, 0, 0)])


class VeinsTogetherTest(unittest.TestCase):
    def test_all_agree_in_random_fields(self):
        source = random.Random(7)
        for round_number in range(60):
            size = (source.randint(1, 6), source.randint(1, 6), source.randint(0, 5))
            facts, veins, joins = random_facts(source, size, source.randint(1, 14))
            self.compare(size, made(size, facts), veins, joins)

    def test_all_agree_in_a_great_field(self):
        source = random.Random(14)
        size = (24, 24, 12)
        facts, veins, joins = random_facts(source, size, 40)
        self.compare(size, made(size, facts), veins, joins)

    def compare(self, size, field, veins, joins):
        spots = [(x, y, floor) for x in range(size[0]) for y in range(size[1]) for floor in range(size[2] + 1)]
        met = {spot: [] for spot in spots}
        for vein in sorted(veins):
            columns = range(len(veins[vein][1]))
            told = [[where(size, veins, joins, vein, column, floor) for floor in range(size[2] + 1)] for column in columns]
            self.assertEqual(courses(field, vein), told)
            for column in columns:
                for floor, cell in enumerate(told[column]):
                    if cell is not None:
                        met[cell + (floor,)].append((vein, column))
        self.assertEqual(ore(field), [spot for spot in spots if met[spot]])
        for spot in spots:
            self.assertEqual(columns_at(field, spot), met[spot], spot)


if __name__ == "__main__":
    unittest.main()
