"""Points 10, 11 and 24 (its last sentence): when claims are vested, and the row of age."""

import random
import unittest

from dipright.field import Field

SIZE = (8, 6, 2)
ALL = (0, 0, 7, 5)
WEST_HALF = (0, 0, 3, 5)
EAST_HALF = (4, 0, 7, 5)


def made(term, facts):
    field = Field(*SIZE, term)
    for day, fact in facts:
        field.enter(day, fact)
    return field


def stake(who, ground):
    return ("stake", who) + ground


def vein(*cells):
    return ("vein", (0, 0), cells)


class VestedTest(unittest.TestCase):
    def vested(self, field):
        return [(name, field.claim(name)[3]) for name in field.claims()]

    def test_on_the_day_of_the_stake(self):
        field = made(50, [(3, vein((1, 1))), (7, stake(1, WEST_HALF))])
        self.assertEqual(self.vested(field), [(7, 7)])
        self.assertEqual((field.state(7), field.standing()), ("stands", [7]))

    def test_on_the_day_of_the_vein(self):
        field = made(50, [(3, stake(1, WEST_HALF))])
        self.assertEqual((self.vested(field), field.state(3), field.standing()), ([(3, None)], "unvested", []))
        field.enter(7, vein((1, 1)))
        self.assertEqual((self.vested(field), field.state(3), field.standing()), ([(3, 7)], "stands", [3]))

    def test_by_an_outcrop_in_its_ground_alone(self):
        field = made(50, [(3, stake(1, (2, 1, 4, 3))), (4, vein((1, 2), (5, 2), (3, 0), (3, 4)))])
        self.assertEqual(self.vested(field), [(3, None)])
        for cell in ((2, 1), (4, 3), (2, 3), (4, 1), (3, 2)):
            twin = field.twin()
            twin.enter(5, vein(cell))
            self.assertEqual(self.vested(twin), [(3, 5)], cell)
        for cell in ((1, 1), (5, 3), (2, 4), (4, 0)):
            twin = field.twin()
            twin.enter(5, vein(cell))
            self.assertEqual(self.vested(twin), [(3, None)], cell)

    def test_by_any_column(self):
        for cells in (((3, 2), (0, 0), (7, 5)), ((0, 0), (3, 2), (7, 5)), ((0, 0), (7, 5), (3, 2))):
            self.assertEqual(self.vested(made(50, [(3, stake(1, (2, 1, 4, 3))), (5, vein(*cells))])), [(3, 5)])
            self.assertEqual(self.vested(made(50, [(5, vein(*cells)), (6, stake(1, (2, 1, 4, 3)))])), [(6, 6)])

    def test_by_any_known_vein(self):
        veins = [(1, vein((0, 0))), (2, vein((3, 2))), (3, vein((7, 5)))]
        self.assertEqual(self.vested(made(50, veins + [(6, stake(1, (2, 1, 4, 3)))])), [(6, 6)])

    def test_not_by_a_column_that_passes_below(self):
        sloping = ("vein", (1, 1), ((1, 1),))
        field = made(50, [(3, stake(1, (2, 0, 3, 5))), (4, sloping), (5, stake(1, (2, 0, 3, 5)))])
        self.assertEqual(self.vested(field), [(3, None), (5, None)])

    def test_not_by_a_join(self):
        facts = [(1, vein((6, 1))), (2, vein((1, 1))), (3, stake(1, (0, 3, 1, 5))), (4, ("join", 2, 1, 1))]
        self.assertEqual(self.vested(made(50, facts)), [(3, None)])

    def test_by_a_vein_that_has_joined_another(self):
        facts = [(1, vein((6, 1))), (2, vein((1, 1))), (4, ("join", 2, 1, 1)), (5, stake(1, (1, 1, 1, 1)))]
        self.assertEqual(self.vested(made(50, facts)), [(5, 5)])

    def test_once_alone(self):
        field = made(50, [(3, vein((1, 1))), (4, stake(1, ALL)), (5, vein((2, 2))), (6, vein((3, 3)))])
        self.assertEqual((self.vested(field), field.standing()), ([(4, 4)], [4]))

    def test_not_when_given_up_by_then(self):
        field = made(50, [(3, stake(1, ALL)), (4, ("give", 3)), (5, vein((1, 1)))])
        self.assertEqual((self.vested(field), field.standing(), field.state(3)), ([(3, None)], [], "given"))

    def test_not_when_fallen_by_then(self):
        on_the_last_day = made(10, [(3, stake(1, ALL)), (13, vein((1, 1)))])
        self.assertEqual((self.vested(on_the_last_day), on_the_last_day.state(3)), ([(3, 13)], "stands"))
        behind_it = made(10, [(3, stake(1, ALL)), (14, vein((1, 1)))])
        self.assertEqual((self.vested(behind_it), behind_it.state(3)), ([(3, None)], "fallen"))
        self.assertEqual(behind_it.standing(), [])

    def test_kept_by_work_until_the_vein(self):
        field = made(10, [(3, stake(1, ALL)), (13, ("work", 3)), (23, vein((1, 1)))])
        self.assertEqual(self.vested(field), [(3, 23)])

    def test_by_neither_work_nor_sale(self):
        field = made(10, [(3, stake(1, ALL)), (4, ("work", 3)), (5, ("sell", 3, 2)), (6, ("pay", 1, 2, 3))])
        self.assertEqual(self.vested(field), [(3, None)])

    def test_vested_stays_behind_its_end(self):
        field = made(10, [(1, vein((1, 1))), (3, stake(1, ALL)), (4, stake(2, ALL)), (5, ("give", 3))])
        field.pass_to(100)
        self.assertEqual(self.vested(field), [(3, 3), (4, 4)])
        self.assertEqual((field.state(3), field.state(4), field.standing()), ("given", "fallen", []))

    def test_a_piece_of_a_vested_claim(self):
        field = made(50, [(2, vein((1, 1))), (3, stake(1, ALL)), (5, ("part", 3, 0, 4, 2))])
        self.assertEqual(self.vested(field), [(3, 3), (5, 3)])
        self.assertEqual((field.state(5), field.standing()), ("stands", [3, 5]))

    def test_a_piece_that_takes_the_outcrop_along(self):
        field = made(50, [(2, vein((6, 1))), (3, stake(1, ALL)), (5, ("part", 3, 0, 4, 2))])
        self.assertEqual(self.vested(field), [(3, 3), (5, 3)])
        self.assertEqual((field.state(3), field.state(5)), ("stands", "stands"))

    def test_a_vested_piece_is_not_vested_anew(self):
        field = made(50, [(2, vein((1, 1))), (3, stake(1, ALL)), (5, ("part", 3, 0, 4, 2)), (6, vein((6, 1)))])
        self.assertEqual((self.vested(field), field.standing()), ([(3, 3), (5, 3)], [3, 5]))

    def test_a_piece_of_an_unvested_claim_waits(self):
        facts = [(3, stake(1, ALL)), (5, ("part", 3, 0, 4, 2)), (7, vein((6, 1)))]
        field = made(50, facts)
        self.assertEqual((self.vested(field), field.standing()), ([(3, None), (5, 7)], [5]))
        field.enter(9, vein((1, 1)))
        self.assertEqual((self.vested(field), field.standing()), ([(3, 9), (5, 7)], [5, 3]))
        field = made(50, facts[:2] + [(7, vein((1, 1)))])
        self.assertEqual((self.vested(field), field.standing()), ([(3, 7), (5, None)], [3]))

    def test_pieces_of_an_unvested_claim_vested_on_one_day(self):
        field = made(50, [(3, stake(1, ALL)), (5, ("part", 3, 0, 4, 2)), (7, vein((6, 1), (1, 1)))])
        self.assertEqual((self.vested(field), field.standing()), ([(3, 7), (5, 7)], [3, 5]))


class RowTest(unittest.TestCase):
    def test_by_the_day_of_vesting(self):
        field = made(100, [(1, stake(1, EAST_HALF)), (2, stake(2, WEST_HALF)), (3, vein((1, 1))), (4, stake(3, WEST_HALF))])
        self.assertEqual(field.standing(), [2, 4])
        field.enter(5, vein((6, 1)))
        self.assertEqual(field.standing(), [2, 4, 1])
        field.enter(6, stake(4, ALL))
        self.assertEqual(field.standing(), [2, 4, 1, 6])

    def test_several_on_one_day(self):
        field = made(300, [
            (9, stake(9, ALL)), (10, stake(8, (0, 0, 0, 0))), (11, stake(7, ALL)), (100, stake(6, ALL)), (101, vein((1, 1), (3, 3))),
        ])
        self.assertEqual(field.standing(), [9, 11, 100])
        field.enter(102, vein((0, 0)))
        self.assertEqual(field.standing(), [9, 11, 100, 10])

    def test_several_on_one_day_in_the_order_of_days_not_of_cells(self):
        stakes = [(4, stake(1, (5, 0, 5, 0))), (5, stake(1, (2, 0, 2, 0))), (6, stake(1, (7, 0, 7, 0))), (7, stake(1, (0, 0, 0, 0)))]
        field = made(100, stakes + [(8, vein((0, 0), (7, 0), (2, 0), (5, 0)))])
        self.assertEqual(field.standing(), [4, 5, 6, 7])

    def test_a_piece_stands_straight_behind_the_whole(self):
        field = made(100, [(1, vein((1, 1), (6, 1))), (2, stake(1, ALL)), (3, stake(2, ALL)), (4, stake(3, ALL))])
        self.assertEqual(field.standing(), [2, 3, 4])
        field.enter(5, ("part", 3, 0, 4, 2))
        self.assertEqual(field.standing(), [2, 3, 5, 4])
        field.enter(6, ("part", 2, 0, 4, 2))
        self.assertEqual(field.standing(), [2, 6, 3, 5, 4])
        field.enter(7, ("part", 4, 0, 4, 2))
        self.assertEqual(field.standing(), [2, 6, 3, 5, 4, 7])
        field.enter(8, stake(9, ALL))
        self.assertEqual(field.standing(), [2, 6, 3, 5, 4, 7, 8])

    def test_several_pieces_of_one_claim(self):
        field = made(100, [(1, vein((0, 0))), (2, stake(1, ALL)), (3, stake(2, ALL))])
        for day, line in ((4, 6), (5, 4), (6, 2)):
            field.enter(day, ("part", 2, 0, line, 1))
        self.assertEqual(field.standing(), [2, 6, 5, 4, 3])

    def test_a_piece_of_a_piece(self):
        field = made(100, [(1, vein((0, 0))), (2, stake(1, ALL)), (3, stake(2, ALL)), (4, ("part", 2, 0, 4, 1))])
        field.enter(5, ("part", 4, 0, 6, 1))
        self.assertEqual(field.standing(), [2, 4, 5, 3])
        field.enter(6, ("part", 4, 1, 3, 1))
        self.assertEqual(field.standing(), [2, 4, 6, 5, 3])
        field.enter(7, ("part", 2, 1, 3, 1))
        self.assertEqual(field.standing(), [2, 7, 4, 6, 5, 3])

    def test_pieces_of_an_unvested_claim_come_to_the_end(self):
        field = made(100, [(1, vein((7, 5))), (2, stake(1, (0, 0, 6, 0))), (3, stake(2, ALL)), (4, ("part", 2, 0, 3, 1))])
        self.assertEqual(field.standing(), [3])
        field.enter(5, vein((5, 0)))
        self.assertEqual(field.standing(), [3, 4])
        field.enter(6, stake(5, ALL))
        field.enter(7, vein((0, 0)))
        self.assertEqual(field.standing(), [3, 4, 6, 2])

    def test_claims_that_fall_go_out(self):
        field = made(10, [(1, vein((0, 0))), (2, stake(1, ALL)), (3, stake(2, ALL)), (4, stake(3, ALL)), (5, ("work", 3))])
        for day, standing in ((12, [2, 3, 4]), (13, [3, 4]), (14, [3, 4]), (15, [3]), (16, [])):
            field.pass_to(day)
            self.assertEqual(field.standing(), standing)

    def test_claims_given_up_go_out(self):
        field = made(50, [(1, vein((0, 0))), (2, stake(1, ALL)), (3, stake(2, ALL)), (4, stake(3, ALL)), (5, ("give", 3))])
        self.assertEqual(field.standing(), [2, 4])
        field.enter(6, stake(2, ALL))
        self.assertEqual(field.standing(), [2, 4, 6])

    def test_a_piece_keeps_its_place_behind_the_end_of_the_whole(self):
        field = made(50, [
            (1, vein((0, 0))), (2, stake(1, ALL)), (3, stake(2, ALL)), (4, ("part", 2, 0, 4, 1)), (5, ("give", 2)),
        ])
        self.assertEqual(field.standing(), [4, 3])
        field.enter(6, ("part", 4, 0, 6, 1))
        self.assertEqual(field.standing(), [4, 6, 3])

    def test_a_piece_is_put_behind_a_whole_that_has_fallen_neighbours(self):
        field = made(10, [
            (1, vein((0, 0))), (2, stake(1, ALL)), (3, ("part", 2, 0, 4, 1)), (5, stake(2, ALL)), (9, ("work", 2)),
            (14, ("part", 2, 1, 3, 1)), (15, ("work", 5)), (16, stake(3, ALL)),
        ])
        self.assertEqual(field.standing(), [2, 14, 5, 16])
        self.assertEqual(field.state(3), "fallen")

    def test_neither_sale_nor_work_changes_the_row(self):
        field = made(50, [
            (1, vein((0, 0))), (2, stake(1, ALL)), (3, stake(2, ALL)), (4, stake(3, ALL)), (5, ("sell", 2, 9)), (6, ("work", 3)),
            (7, ("sell", 4, 1)), (8, ("work", 2)), (9, vein((0, 0))), (10, ("dig", 1, 0, 0, 0, 0, 0, 5)),
        ])
        self.assertEqual(field.standing(), [2, 3, 4])

    def test_an_idle_parting_changes_no_row(self):
        field = made(50, [(1, vein((0, 0))), (2, stake(1, (0, 0, 0, 0))), (3, stake(2, ALL)), (4, ("part", 2, 0, 1, 1))])
        self.assertEqual(field.standing(), [2, 3])

    def test_the_row_never_turns(self):
        source = random.Random(24)
        for round_number in range(40):
            field = Field(*SIZE, source.choice((5, 20, 60, 400)))
            ahead = []
            for day in range(1, 120):
                field.enter(day, self.random_fact(source, field))
                now = field.standing()
                self.assertEqual(len(set(now)), len(now))
                both = [name for name in now if name in ahead]
                self.assertEqual(both, [name for name in ahead if name in now])
                self.assertEqual(sorted(now), [name for name in field.claims() if field.state(name) == "stands"])
                ahead = now

    def random_fact(self, source, field):
        names = field.claims() or [1]
        word = source.choice(("vein", "stake", "stake", "work", "work", "sell", "part", "part", "give"))
        name = source.choice(names)
        if word == "vein":
            return vein((source.randrange(8), source.randrange(6)))
        if word == "stake":
            left, right = sorted((source.randrange(8), source.randrange(8)))
            top, low = sorted((source.randrange(6), source.randrange(6)))
            return stake(source.randint(1, 5), (left, top, right, low))
        if word == "sell":
            return ("sell", name, source.randint(1, 5))
        if word == "part":
            return ("part", name, source.randrange(2), source.randint(1, 7), source.randint(1, 5))
        return (word, name)


if __name__ == "__main__":
    unittest.main()
