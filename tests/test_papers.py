"""Points 15 and 16: the paper that is told for a spot, and how a paper handed in is judged."""

import itertools
import random
import unittest

from dipright.errors import OutOfGround
from dipright.field import Field
from dipright.ground import inside
from dipright.papers import judge, paper
from dipright.reach import by_dip
from dipright.title import title
from dipright.veins import courses
from helper import HUGE, Asked, beyond, entered, kinds, random_facts, spots_of

SIZE = (8, 6, 3)
ALL = (0, 0, 7, 5)
EAST = ("vein", (1, 1, 1), ((1, 1), (1, 2), (5, 1)))
STRAIGHT = ("vein", (0, 0, 0), ((2, 1), (3, 1), (0, 5)))
WORDS = ("given", "fallen", "unvested", "ground", "younger")


def stake(who, *ground):
    return ("stake", who) + ground


def literal(field, spot, handed):
    """Whether a paper is good, as point 15 says it, sentence by sentence."""
    def has_ground(claim):
        return inside(field.claim(claim)[1], spot[:2])

    def dips(claim):
        pairs = [(vein, column) for vein in field.veins() for column in range(len(field.vein(vein)[1]))]
        pairs = [(vein, column) for vein, column in pairs if courses(field, vein)[column][spot[2]] == spot[:2]]
        return [(vein, column) for vein, column in pairs if inside(field.claim(claim)[1], field.vein(vein)[1][column])]

    def good_other(claim, word, day, holder, way):
        owner, ground, last, vested, given = field.claim(claim)
        state = field.state(claim)
        if state != "stands":
            return (word, day) == {"given": ("given", given), "fallen": ("fallen", last + 1), "unvested": ("unvested", claim)}[state]
        if holder is None or day != vested:
            return False
        if way[0] == "dip" and not dips(claim):
            return word == "ground"
        return word == "younger" and field.standing().index(claim) > field.standing().index(holder)

    def good_others(others, holder, way):
        near = [claim for claim in field.claims() if claim != holder and (dips(claim) or has_ground(claim))]
        if [claim for claim, word, day in others] != near:
            return False
        return all(good_other(claim, word, day, holder, way) for claim, word, day in others)

    if handed[0] == "open":
        return good_others(handed[1], None, None)
    claim, way, years, others = handed[1:]
    if claim not in field.claims() or field.state(claim) != "stands":
        return False
    if way[0] == "dip" and way[1:] not in dips(claim):
        return False
    if way[0] == "ground" and (not has_ground(claim) or any(dips(other) for other in field.standing())):
        return False
    days = field.years(claim)
    if not years or years[0] != days[0] or not set(years) <= set(days) or field.today() - years[-1] > field.term():
        return False
    if not all(0 < later - earlier <= field.term() for earlier, later in zip(years, years[1:])):
        return False
    return good_others(others, claim, way)


class PaperTest(Asked):
    def told(self, facts, spot, term=100, day=None):
        """The paper told, once it is seen that it is judged good and made of tuples."""
        field = entered(SIZE, term, facts, day)
        answer = paper(field, spot)
        self.assertIs(judge(field, spot, answer), True)
        self.assertTrue(literal(field, spot, answer))
        self.check_kinds(answer)
        return answer

    def check_kinds(self, answer):
        self.assertIs(type(answer), tuple)
        for triple in answer[-1]:
            self.assertEqual(kinds(triple), ("tuple", ("int", "str", "int")))
        self.assertIs(type(answer[-1]), tuple)
        if answer[0] == "open":
            self.assertEqual(len(answer), 2)
            return
        self.assertEqual(len(answer), 5)
        self.assertIs(type(answer[1]), int)
        self.assertIn(kinds(answer[2]), (("tuple", ("str",)), ("tuple", ("str", "int", "int"))))
        self.assertEqual(kinds(answer[3]), ("tuple", ("int",) * len(answer[3])))

    def test_on_day_nought(self):
        field = Field(*SIZE, 10)
        for spot in spots_of(SIZE):
            self.assertEqual(paper(field, spot), ("open", ()))
            self.assertIs(judge(field, spot, ("open", ())), True)

    def test_by_dip_by_one_column(self):
        facts = [(3, EAST), (5, stake(7, 1, 1, 1, 1))]
        self.assertEqual(self.told(facts, (1, 1, 0)), ("held", 5, ("dip", 3, 0), (5,), ()))
        self.assertEqual(self.told(facts, (4, 1, 3)), ("held", 5, ("dip", 3, 0), (5,), ()))
        facts = [(3, EAST), (5, stake(7, 1, 2, 1, 2))]
        self.assertEqual(self.told(facts, (3, 2, 2)), ("held", 5, ("dip", 3, 1), (5,), ()))

    def test_by_dip_by_columns_of_several_veins(self):
        """The least vein: column 0 of both at (2, 1, 1), other columns elsewhere."""
        facts = [(2, STRAIGHT), (3, EAST), (5, stake(7, *ALL))]
        self.assertEqual(self.told(facts, (2, 1, 1)), ("held", 5, ("dip", 2, 0), (5,), ()))
        self.assertEqual(self.told(facts, (3, 1, 2)), ("held", 5, ("dip", 2, 1), (5,), ()))
        self.assertEqual(self.told(facts, (4, 1, 3)), ("held", 5, ("dip", 3, 0), (5,), ()))
        turned = [(2, EAST), (3, STRAIGHT), (5, stake(7, *ALL))]
        self.assertEqual(self.told(turned, (3, 1, 2)), ("held", 5, ("dip", 2, 0), (5,), ()))

    def test_by_dip_by_the_veins_of_its_own_outcrops_alone(self):
        facts = [(2, STRAIGHT), (3, EAST), (5, stake(7, 1, 1, 1, 1))]
        self.assertEqual(self.told(facts, (3, 1, 2)), ("held", 5, ("dip", 3, 0), (5,), ()))
        facts = [(2, EAST), (3, STRAIGHT), (5, stake(7, 3, 1, 3, 1))]
        self.assertEqual(self.told(facts, (3, 1, 2)), ("held", 5, ("dip", 3, 1), (5,), ()))

    def test_the_least_vein_and_not_the_least_column(self):
        cells = ((0, 0), (7, 5), (2, 1))
        facts = [(2, ("vein", (0, 0, 0), cells)), (3, EAST), (5, stake(7, *ALL))]
        self.assertEqual(self.told(facts, (2, 1, 1)), ("held", 5, ("dip", 2, 2), (5,), ()))

    def test_through_a_join(self):
        facts = [(2, STRAIGHT), (3, EAST), (5, stake(7, 1, 1, 1, 1)), (6, ("join", 3, 2, 2))]
        self.assertEqual(self.told(facts, (2, 1, 1)), ("held", 5, ("dip", 3, 0), (5,), ()))
        self.assertEqual(self.told(facts, (2, 1, 2)), ("held", 5, ("dip", 3, 0), (5,), ()))
        self.assertEqual(self.told(facts, (2, 1, 3)), ("held", 5, ("dip", 3, 0), (5,), ()))
        self.assertEqual(self.told(facts, (4, 1, 3)), ("open", ()))
        self.assertEqual(self.told(facts[:-1], (4, 1, 3)), ("held", 5, ("dip", 3, 0), (5,), ()))
        both = [(2, STRAIGHT), (3, EAST), (5, stake(7, *ALL)), (6, ("join", 3, 2, 2))]
        self.assertEqual(self.told(both, (2, 1, 3)), ("held", 5, ("dip", 2, 0), (5,), ()))
        third = both[:2] + [(4, EAST), (5, stake(7, 5, 1, 5, 1)), (6, ("join", 4, 3, 1)), (7, ("join", 3, 2, 3))]
        self.assertEqual(self.told(third, (0, 5, 3)), ("held", 5, ("dip", 3, 2), (5,), ()))
        self.assertEqual(self.told(third, (7, 1, 2)), ("held", 5, ("dip", 3, 2), (5,), ()))

    def test_by_ground(self):
        facts = [(3, EAST), (5, stake(7, 0, 0, 2, 2))]
        self.assertEqual(self.told(facts, (0, 0, 0)), ("held", 5, ("ground",), (5,), ()))
        self.assertEqual(self.told(facts, (1, 1, 3)), ("held", 5, ("ground",), (5,), ()))
        self.assertEqual(self.told(facts, (2, 2, 3)), ("held", 5, ("ground",), (5,), ()))

    def test_open_with_nobody(self):
        facts = [(3, EAST), (5, stake(7, 0, 0, 1, 1))]
        self.assertEqual(self.told(facts, (6, 5, 2)), ("open", ()))
        self.assertEqual(self.told(facts, (3, 2, 2)), ("open", ()))

    def test_open_with_others(self):
        facts = [
            (1, stake(1, *ALL)), (2, stake(2, 4, 4, 7, 5)), (3, ("give", 1)), (4, EAST), (5, stake(3, 0, 0, 7, 5)), (11, ("give", 5)),
        ]
        told = ("open", ((1, "given", 3), (2, "unvested", 2), (5, "given", 11)))
        self.assertEqual(self.told(facts, (6, 5, 2), term=10), told)
        told = ("open", ((1, "given", 3), (2, "fallen", 13), (5, "given", 11)))
        self.assertEqual(self.told(facts, (6, 5, 2), term=10, day=13), told)
        self.assertEqual(self.told(facts, (4, 1, 3), term=10), ("open", ((1, "given", 3), (5, "given", 11))))

    def test_given_with_the_day_of_giving(self):
        facts = [(1, EAST), (2, stake(1, *ALL)), (3, stake(2, *ALL)), (9, ("give", 2))]
        for day in (9, 10, 12, 13):
            told = ("held", 3, ("ground",), (3,), ((2, "given", 9),))
            self.assertEqual(self.told(facts, (6, 5, 2), term=10, day=day), told)

    def test_given_stays_given_when_its_years_are_over(self):
        facts = [(1, EAST), (2, stake(1, *ALL)), (9, ("give", 2))]
        self.assertEqual(self.told(facts, (6, 5, 2), term=10, day=100), ("open", ((2, "given", 9),)))

    def test_fallen_with_the_first_day_on_which_it_is_fallen(self):
        facts = [(1, EAST), (2, stake(1, *ALL)), (6, ("work", 2)), (7, stake(2, 1, 1, 1, 1))]
        held = ("held", 2, ("dip", 1, 0), (2, 6), ((7, "younger", 7),))
        self.assertEqual(self.told(facts, (1, 1, 0), term=10, day=16), held)
        behind = ("held", 7, ("dip", 1, 0), (7,), ((2, "fallen", 17),))
        self.assertEqual(self.told(facts, (1, 1, 0), term=10, day=17), behind)
        self.assertEqual(self.told(facts, (1, 1, 0), term=10, day=18), ("open", ((2, "fallen", 17), (7, "fallen", 18))))
        self.assertEqual(self.told(facts, (1, 1, 0), term=10, day=400), ("open", ((2, "fallen", 17), (7, "fallen", 18))))

    def test_fallen_beyond_the_last_day_of_all(self):
        facts = [(1, EAST), (399, stake(1, *ALL))]
        self.assertEqual(self.told(facts, (7, 5, 0), term=1, day=400), ("held", 399, ("ground",), (399,), ()))
        facts = [(1, EAST), (398, stake(1, *ALL))]
        self.assertEqual(self.told(facts, (7, 5, 0), term=1, day=400), ("open", ((398, "fallen", 400),)))

    def test_unvested_with_the_day_by_which_it_is_known(self):
        facts = [(2, stake(1, 4, 0, 4, 0)), (3, EAST), (4, stake(2, 0, 0, 7, 1)), (9, stake(3, 4, 0, 4, 3))]
        told = ("held", 4, ("dip", 3, 0), (4,), ((9, "unvested", 9),))
        self.assertEqual(self.told(facts, (4, 1, 3)), told)
        told = ("held", 4, ("ground",), (4,), ((2, "unvested", 2), (9, "unvested", 9)))
        self.assertEqual(self.told(facts, (4, 0, 3)), told)

    def test_unvested_piece(self):
        facts = [(2, stake(1, 4, 2, 7, 5)), (6, ("part", 2, 0, 6, 3))]
        self.assertEqual(self.told(facts, (7, 5, 3)), ("open", ((6, "unvested", 6),)))
        self.assertEqual(self.told(facts, (4, 5, 3)), ("open", ((2, "unvested", 2),)))

    def test_ground_with_the_day_of_vesting(self):
        facts = [(2, stake(1, 2, 0, 7, 5)), (4, EAST), (7, stake(2, 1, 1, 1, 1)), (8, stake(3, 4, 0, 5, 5))]
        told = ("held", 7, ("dip", 4, 0), (7,), ((2, "ground", 4), (8, "ground", 8)))
        self.assertEqual(self.told(facts, (4, 1, 3)), told)

    def test_younger_by_dip(self):
        facts = [(2, stake(1, 1, 1, 1, 1)), (3, stake(2, 1, 1, 1, 2)), (4, EAST), (7, stake(2, *ALL)), (8, stake(3, 4, 1, 5, 1))]
        told = ("held", 2, ("dip", 4, 0), (2,), ((3, "younger", 4), (7, "younger", 7), (8, "ground", 8)))
        self.assertEqual(self.told(facts, (4, 1, 3)), told)

    def test_younger_by_ground(self):
        facts = [(2, stake(1, *ALL)), (3, stake(2, 4, 0, 7, 5)), (4, EAST), (7, stake(2, *ALL))]
        told = ("held", 2, ("ground",), (2,), ((3, "younger", 4), (7, "younger", 7)))
        self.assertEqual(self.told(facts, (7, 5, 3)), told)

    def test_younger_of_an_earlier_day(self):
        """Claim 3 is known by an earlier day than claim 5, but was vested behind it."""
        second = ("vein", (0, 0, 0), ((1, 2),))
        facts = [(1, second), (3, stake(1, 1, 1, 4, 1)), (5, stake(2, 1, 1, 1, 2)), (6, EAST)]
        told = ("held", 5, ("dip", 6, 0), (5,), ((3, "younger", 6),))
        self.assertEqual(self.told(facts, (4, 1, 3)), told)
        self.assertEqual(self.told(facts, (4, 1, 2)), ("held", 3, ("ground",), (3,), ()))

    def test_younger_piece_with_the_whole_s_day_of_vesting(self):
        facts = [(1, EAST), (2, stake(1, *ALL)), (3, stake(2, *ALL)), (4, ("part", 2, 1, 3, 9)), (5, ("part", 2, 0, 4, 9))]
        told = ("held", 2, ("dip", 1, 0), (2,), ((3, "younger", 3), (5, "ground", 2)))
        self.assertEqual(self.told(facts, (4, 1, 3)), told)
        told = ("held", 4, ("ground",), (2,), ((3, "younger", 3),))
        self.assertEqual(self.told(facts, (7, 5, 0)), told)

    def test_all_five_words(self):
        facts, day, spot, told = DIP
        self.assertEqual(self.told(facts, spot, term=10, day=day), told)
        self.assertEqual({word for claim, word, when in told[4]}, set(WORDS))
        facts, day, spot, told = GROUND
        self.assertEqual(self.told(facts, spot, term=10, day=day), told)
        facts, day, spot, told = OPEN
        self.assertEqual(self.told(facts, spot, term=10, day=day), told)

    def test_years_of_a_claim_that_was_worked(self):
        facts = [(1, EAST), (2, stake(1, *ALL)), (3, ("work", 2)), (9, ("work", 2)), (10, ("sell", 2, 5)), (19, ("work", 2))]
        for many, day, years in ((2, 12, (2,)), (3, 3, (2, 3)), (4, 19, (2, 3, 9)), (6, 19, (2, 3, 9, 19)), (6, 29, (2, 3, 9, 19))):
            told = ("held", 2, ("ground",), years, ())
            self.assertEqual(self.told(facts[:many], (7, 5, 3), term=10, day=day), told)

    def test_years_ahead_of_the_vesting(self):
        facts = [(2, stake(1, *ALL)), (5, ("work", 2)), (9, EAST)]
        self.assertEqual(self.told(facts, (7, 5, 3), term=10), ("held", 2, ("ground",), (2, 5), ()))

    def test_years_without_idle_work_and_work_of_others(self):
        facts = [(1, EAST), (2, stake(1, *ALL)), (3, ("work", 9)), (4, stake(2, *ALL)), (5, ("work", 4)), (6, ("work", 2)), (17, ("work", 2))]
        told = ("held", 2, ("ground",), (2, 6), ((4, "younger", 4),))
        self.assertEqual(self.told(facts[:-1], (7, 5, 3), term=10), told)
        self.assertEqual(self.told(facts, (7, 5, 3), term=10), ("open", ((2, "fallen", 17), (4, "fallen", 16))))

    def test_years_of_a_piece_and_of_a_piece_of_a_piece(self):
        facts = [
            (1, EAST), (2, stake(1, *ALL)), (4, ("work", 2)), (5, ("part", 2, 0, 2, 3)), (6, ("work", 2)), (7, ("work", 5)),
            (8, ("part", 5, 1, 3, 4)), (9, ("work", 5)), (10, ("work", 8)),
        ]
        for spot, claim, years in (((0, 0, 3), 2, (2, 4, 6)), ((7, 0, 3), 5, (2, 4, 7, 9)), ((7, 5, 3), 8, (2, 4, 7, 10))):
            self.assertEqual(self.told(facts, spot, term=10), ("held", claim, ("ground",), years, ()))

    def test_out_of_ground(self):
        for field in (Field(*SIZE, 10), entered(SIZE, 10, DIP[0])):
            for spot in beyond(SIZE):
                self.refused(OutOfGround, paper, field, spot)

    def test_the_edges(self):
        field = entered(SIZE, 10, [(1, EAST), (2, stake(1, *ALL))])
        for spot in ((0, 0, 0), (7, 0, 0), (0, 5, 0), (0, 0, 3), (7, 5, 3)):
            self.assertEqual(paper(field, spot), ("held", 2, ("ground",), (2,), ()))

    def test_without_floors(self):
        field = entered((1, 1, 0), 10, [(1, ("vein", (), ((0, 0),))), (2, stake(1, 0, 0, 0, 0)), (3, stake(1, 0, 0, 0, 0))])
        self.assertEqual(paper(field, (0, 0, 0)), ("held", 2, ("dip", 1, 0), (2,), ((3, "younger", 3),)))


# Facts, a day, a spot and its paper, held by dip with each of the five words; the term is 10. The work of day 7 is done
# on a piece of the holder's claim, that of day 13 on another claim.
DIP = (
    [
        (1, STRAIGHT), (2, stake(1, 1, 0, 2, 1)), (3, stake(2, *ALL)), (4, stake(3, 4, 0, 7, 1)), (5, ("part", 2, 0, 2, 9)),
        (6, EAST), (7, ("work", 5)), (8, ("work", 2)), (9, ("give", 3)), (10, stake(4, 4, 0, 4, 5)), (11, stake(5, 4, 1, 5, 5)),
        (12, stake(6, 1, 1, 4, 3)), (13, ("work", 11)), (18, ("work", 2)),
    ],
    20,
    (4, 1, 3),
    ("held", 2, ("dip", 6, 0), (2, 8, 18), (
        (3, "given", 9), (4, "fallen", 15), (10, "unvested", 10), (11, "ground", 11), (12, "younger", 12),
    )),
)
# The same, held by ground: nobody who stands reaches the spot by dip, as claim 3 that does is given up.
GROUND = (
    [
        (1, EAST), (2, stake(1, *ALL)), (3, stake(2, 1, 1, 1, 1)), (4, stake(3, 4, 0, 7, 1)), (5, ("give", 3)),
        (6, ("part", 2, 0, 2, 9)), (7, ("work", 6)), (10, stake(4, 4, 0, 4, 5)), (11, stake(5, 4, 1, 5, 5)), (12, ("give", 2)),
        (13, ("work", 11)), (17, ("work", 6)),
    ],
    20,
    (4, 1, 3),
    ("held", 6, ("ground",), (2, 7, 17), (
        (2, "given", 12), (3, "given", 5), (4, "fallen", 15), (10, "unvested", 10), (11, "younger", 11),
    )),
)
OPEN = (
    [
        (1, EAST), (2, stake(1, *ALL)), (3, stake(2, 4, 0, 7, 1)), (5, ("give", 2)), (6, ("work", 3)), (11, stake(4, 4, 0, 4, 5)),
        (12, stake(5, 0, 0, 0, 0)),
    ],
    18,
    (4, 1, 3),
    ("open", ((2, "given", 5), (3, "fallen", 17), (11, "unvested", 11))),
)
CASES = (DIP, GROUND, OPEN)


class JudgeTest(Asked):
    def field(self, case):
        return entered(SIZE, 10, case[0], case[1])

    def good(self, case, handed):
        field = self.field(case)
        self.assertIs(judge(field, case[2], handed), True, handed)
        self.assertTrue(literal(field, case[2], handed), handed)

    def bad(self, case, *papers):
        field = self.field(case)
        for handed in papers:
            self.assertIs(judge(field, case[2], handed), False, handed)
            self.assertFalse(literal(field, case[2], handed), handed)

    def put(self, case, place, *things):
        """The paper of a case with another thing in one place, once for each of these things."""
        told = case[3]
        return [told[:place] + (thing,) + told[place + 1:] for thing in things]

    def test_good_ones(self):
        for case in CASES:
            self.good(case, case[3])
            self.assertEqual(paper(self.field(case), case[2]), case[3])

    def test_another_holder(self):
        """One of the others in each state, claims that are not known, days that are no claims, and numbers far away."""
        for case in (DIP, GROUND):
            for holder in list(range(-2, 25)) + [400, 401, HUGE, -HUGE]:
                if holder != case[3][1]:
                    self.bad(case, *self.put(case, 1, holder))

    def test_another_holder_with_others_to_fit(self):
        for case in (DIP, GROUND):
            field = self.field(case)
            for holder in field.claims():
                if holder != case[3][1]:
                    rest = [triple for triple in case[3][4] if triple[0] != holder]
                    for word in WORDS:
                        others = tuple(sorted(rest + [(case[3][1], word, field.claim(case[3][1])[3])]))
                        years = tuple(field.years(holder))
                        for way in (("ground",), ("dip", 1, 0), ("dip", 6, 0)):
                            self.bad(case, ("held", holder, way, years, others))

    def test_dip_for_ground_and_ground_for_dip(self):
        self.bad(DIP, *self.put(DIP, 2, ("ground",)))
        self.bad(GROUND, *self.put(GROUND, 2, ("dip", 1, 0), ("dip", 1, 1), ("dip", 1, 2), ("dip", 2, 0), ("dip", 0, 0)))

    def test_ground_for_dip_where_the_holder_has_the_ground_too(self):
        case = ([(1, STRAIGHT), (2, stake(1, *ALL))], 5, (2, 1, 3), ("held", 2, ("dip", 1, 0), (2,), ()))
        self.good(case, case[3])
        self.bad(case, *self.put(case, 2, ("ground",)))

    def test_another_vein(self):
        self.bad(DIP, *self.put(DIP, 2, ("dip", 1, 0), ("dip", 5, 0), ("dip", 2, 0), ("dip", 0, 0), ("dip", 7, 0), ("dip", -6, 0),
                                ("dip", 400, 0), ("dip", HUGE, 0), ("dip", -HUGE, 0)))

    def test_another_column(self):
        """A column below nought counts from nowhere: -3 is none, though there are three columns."""
        for column in (-1, -2, -3, -4, 1, 2, 3, 4, 16, HUGE, -HUGE):
            self.bad(DIP, *self.put(DIP, 2, ("dip", 6, column)))

    def test_a_column_that_is_at_the_spot_but_has_its_outcrop_elsewhere(self):
        case = ([(1, STRAIGHT), (2, EAST), (3, stake(1, 1, 1, 1, 1))], 5, (2, 1, 1), ("held", 3, ("dip", 2, 0), (3,), ()))
        self.good(case, case[3])
        self.bad(case, *self.put(case, 2, ("dip", 1, 0)))

    def test_a_column_of_the_holder_that_is_elsewhere(self):
        case = ([(1, STRAIGHT), (2, EAST), (3, stake(1, *ALL))], 5, (2, 1, 1), ("held", 3, ("dip", 1, 0), (3,), ()))
        self.good(case, case[3])
        self.bad(case, *self.put(case, 2, ("dip", 1, 1), ("dip", 1, 2), ("dip", 2, 1), ("dip", 2, 2)))

    def test_a_column_that_is_not_the_least_one(self):
        case = ([(1, STRAIGHT), (2, EAST), (3, EAST), (4, stake(1, *ALL))], 5, (2, 1, 1), ("held", 4, ("dip", 1, 0), (4,), ()))
        for way in (("dip", 1, 0), ("dip", 2, 0), ("dip", 3, 0)):
            self.good(case, *self.put(case, 2, way))
        self.assertEqual(paper(self.field(case), case[2]), case[3])

    def test_a_column_through_a_join(self):
        facts = [(1, STRAIGHT), (2, EAST), (3, stake(1, 1, 1, 1, 1)), (4, ("join", 2, 1, 2))]
        case = (facts, 5, (2, 1, 3), ("held", 3, ("dip", 2, 0), (3,), ()))
        self.good(case, case[3])
        self.bad(case, *self.put(case, 2, ("dip", 1, 0)))
        without = (facts[:-1], 5, (2, 1, 3), case[3])
        self.bad(without, case[3])
        self.bad((facts, 5, (4, 1, 3), None), case[3])
        self.good((facts[:-1], 5, (4, 1, 3), None), case[3])

    def test_years_that_are_empty(self):
        self.bad(DIP, *self.put(DIP, 3, ()))
        self.bad(GROUND, *self.put(GROUND, 3, ()))

    def test_years_not_from_the_stake_s_day(self):
        self.bad(DIP, *self.put(DIP, 3, (8, 18), (18,), (1, 8, 18), (1, 2, 8, 18), (3, 8, 18), (5, 8, 18), (-2, 2, 8, 18), (0, 2, 8, 18)))
        self.bad(GROUND, *self.put(GROUND, 3, (7, 17), (17,), (6, 7, 17), (1, 2, 7, 17), (11, 17), (12, 17)))

    def test_years_not_rising(self):
        self.bad(DIP, *self.put(DIP, 3, (2, 2, 8, 18), (2, 8, 8, 18), (2, 8, 18, 18), (2, 18, 8), (8, 2, 18), (18, 8, 2), (2, 8, 18, 8),
                                (2, 8, 2, 18), (2, 8, 18, 2)))

    def test_days_that_are_no_years_of_this_claim(self):
        """Days without work on it, of other claims' work, of its parting, of the others' stakes, and to come."""
        for day in (3, 4, 5, 6, 7, 9, 10, 11, 12, 13, 14, 17, 19, 20, 21, 28, HUGE, -HUGE):
            self.bad(DIP, *self.put(DIP, 3, tuple(sorted((2, 8, 18, day)))))
        for day in (3, 4, 5, 6, 10, 11, 12, 13, 18, 20, 21, HUGE, -HUGE):
            self.bad(GROUND, *self.put(GROUND, 3, tuple(sorted((2, 7, 17, day)))))

    def test_work_of_the_whole_behind_the_parting(self):
        facts = [(1, EAST), (2, stake(1, *ALL)), (4, ("work", 2)), (5, ("part", 2, 0, 2, 3)), (6, ("work", 2)), (7, ("work", 5)),
                 (8, ("part", 5, 1, 3, 4)), (9, ("work", 5)), (10, ("work", 8))]
        whole = (facts, 12, (0, 0, 3), ("held", 2, ("ground",), (2, 4, 6), ()))
        piece = (facts, 12, (7, 0, 3), ("held", 5, ("ground",), (2, 4, 7, 9), ()))
        third = (facts, 12, (7, 5, 3), ("held", 8, ("ground",), (2, 4, 7, 10), ()))
        for case, wrong in ((whole, (5, 7, 8, 9, 10)), (piece, (5, 6, 8, 10)), (third, (5, 6, 8, 9))):
            self.good(case, case[3])
            for day in wrong:
                self.bad(case, *self.put(case, 3, tuple(sorted(case[3][3] + (day,)))))
        self.bad(third, *self.put(third, 3, (5, 7, 10), (8, 10), (4, 7, 10)))

    def test_a_gap_of_term_and_of_one_more(self):
        for last in (12, 13):
            facts = [(1, EAST), (2, stake(1, *ALL)), (3, ("work", 2)), (12, ("work", 2)), (13, ("work", 2))]
            case = (facts, 14, (7, 5, 3), ("held", 2, ("ground",), (2, 3, 12, 13), ()))
            self.good(case, case[3])
            self.good(case, *self.put(case, 3, (2, 12)))
            self.good(case, *self.put(case, 3, (2, 3, last)))
            self.bad(case, *self.put(case, 3, (2, 13)))

    def test_the_field_s_day_term_behind_the_last_year_and_one_more(self):
        facts = [(1, EAST), (2, stake(1, *ALL)), (5, ("work", 2))]
        told = ("held", 2, ("ground",), (2, 5), ())
        early = ("held", 2, ("ground",), (2,), ())
        for day, good in ((11, True), (12, True), (13, False), (15, False)):
            field = entered(SIZE, 10, facts, day)
            self.assertIs(judge(field, (7, 5, 3), told), True)
            self.assertIs(judge(field, (7, 5, 3), early), good)
        self.assertIs(judge(entered(SIZE, 10, facts, 16), (7, 5, 3), told), False)

    def test_some_years_left_out(self):
        for case in (DIP, GROUND):
            self.bad(case, *self.put(case, 3, case[3][3][:1]))
            self.bad(case, *self.put(case, 3, (case[3][3][0], case[3][3][2])))
        facts = [(1, EAST), (2, stake(1, *ALL)), (4, ("work", 2)), (7, ("work", 2)), (12, ("work", 2)), (15, ("work", 2))]
        case = (facts, 16, (7, 5, 3), ("held", 2, ("ground",), (2, 4, 7, 12, 15), ()))
        for years in ((2, 7), (2, 12), (2, 7, 12), (2, 7, 15), (2, 4, 12, 15), (2, 12, 15), (2, 4, 7)):
            self.good(case, *self.put(case, 3, years))
        self.bad(case, *self.put(case, 3, (2,), (2, 4), (2, 15), (2, 4, 15)))

    def test_others_with_one_left_out(self):
        for case in CASES:
            others = case[3][-1]
            for place in range(len(others)):
                self.bad(case, *self.put(case, len(case[3]) - 1, others[:place] + others[place + 1:]))
            self.bad(case, *self.put(case, len(case[3]) - 1, ()))

    def test_others_with_one_too_many(self):
        """The claim 12 of OPEN doesn't reach the spot, and claims that are not known reach nothing."""
        for case, more in ((DIP, (1, 5, 6, 8, 13, 20, 21)), (GROUND, (1, 7, 13, 20)), (OPEN, (1, 12, 13, 18))):
            others = case[3][-1]
            for claim in more + (0, -1, 400, HUGE, -HUGE):
                for word in WORDS:
                    self.bad(case, *self.put(case, len(case[3]) - 1, tuple(sorted(others + ((claim, word, claim),)))))

    def test_others_with_one_twice(self):
        for case in CASES:
            others = case[3][-1]
            for place in range(len(others)):
                self.bad(case, *self.put(case, len(case[3]) - 1, others[:place] + others[place:place + 1] + others[place:]))

    def test_others_in_another_order(self):
        for case in CASES:
            others = case[3][-1]
            orders = [order for order in itertools.permutations(others) if order != others]
            self.bad(case, *self.put(case, len(case[3]) - 1, *orders))

    def test_others_with_the_holder_among_them(self):
        for case in (DIP, GROUND):
            holder = case[3][1]
            for word in WORDS:
                for day in (holder, 6, 1, 2, 20):
                    self.bad(case, *self.put(case, 4, tuple(sorted(case[3][4] + ((holder, word, day),)))))

    def test_others_with_another_word(self):
        """Also texts that are none of the words; so `younger` for `ground` and `ground` for `younger`."""
        wrong = ("", " ", "stands", "elder", "Given", "younger ", "GROUND", "dip", "held", "open", "others", "None", "\n", "0")
        for case in CASES:
            others = case[3][-1]
            for place, (claim, word, day) in enumerate(others):
                for text in WORDS + wrong:
                    if text != word:
                        changed = others[:place] + ((claim, text, day),) + others[place + 1:]
                        self.bad(case, *self.put(case, len(case[3]) - 1, changed))

    def test_others_with_another_day(self):
        for case in CASES:
            others = case[3][-1]
            for place, (claim, word, day) in enumerate(others):
                for wrong in (day - 1, day + 1, 0, 1, case[1], case[1] + 1, -day, 400, HUGE, -HUGE):
                    changed = others[:place] + ((claim, word, wrong),) + others[place + 1:]
                    self.bad(case, *self.put(case, len(case[3]) - 1, changed))

    def test_others_with_the_day_of_another_kind(self):
        """The stake for the vesting, the vesting for the giving, the last day for the first fallen one."""
        facts = [(2, stake(1, *ALL)), (3, stake(2, *ALL)), (4, stake(3, *ALL)), (5, stake(4, 0, 3, 7, 5)), (6, EAST), (8, ("give", 3)),
                 (9, ("work", 2)), (10, ("work", 5))]
        case = (facts, 15, (7, 5, 3), ("held", 2, ("ground",), (2, 9), ((3, "given", 8), (4, "fallen", 15), (5, "unvested", 5))))
        self.good(case, case[3])
        for given in (3, 6, 8, 13, 14):
            for fallen in (4, 6, 14, 15):
                for unvested in (5, 6, 10, 20, 21):
                    if (given, fallen, unvested) != (8, 15, 5):
                        others = ((3, "given", given), (4, "fallen", fallen), (5, "unvested", unvested))
                        self.bad(case, *self.put(case, 4, others))

    def test_younger_of_one_that_is_elder(self):
        facts = [(1, EAST), (2, stake(1, *ALL)), (3, stake(2, *ALL))]
        for spot, way in (((7, 5, 3), ("ground",)), ((4, 1, 3), ("dip", 1, 0))):
            case = (facts, 5, spot, ("held", 2, way, (2,), ((3, "younger", 3),)))
            self.good(case, case[3])
            self.bad(case, ("held", 3, way, (3,), ((2, "younger", 2),)))
            self.bad(case, ("held", 3, way, (3,), ((2, "ground", 2),)))

    def test_younger_by_the_row_and_not_by_the_day(self):
        """Claim 4 came by the parting of claim 2, and so is elder than claim 3; both were vested on one day."""
        facts = [(2, stake(1, *ALL)), (3, stake(2, *ALL)), (4, ("part", 2, 0, 4, 5)), (5, EAST)]
        case = (facts, 7, (7, 5, 3), ("held", 3, ("ground",), (3,), ((4, "younger", 5),)))
        self.good(case, case[3])
        vested = ([(1, EAST)] + facts[:3], 7, (7, 5, 3), ("held", 4, ("ground",), (2,), ((3, "younger", 3),)))
        self.good(vested, vested[3])
        self.bad(vested, ("held", 3, ("ground",), (3,), ((4, "younger", 2),)))

    def test_elder_by_ground_is_no_matter_by_dip(self):
        facts = [(1, EAST), (2, stake(1, 4, 0, 7, 5)), (3, stake(2, 1, 1, 1, 1))]
        case = (facts, 5, (4, 1, 3), ("held", 3, ("dip", 1, 0), (3,), ((2, "ground", 2),)))
        self.good(case, case[3])
        self.bad(case, ("held", 3, ("dip", 1, 0), (3,), ((2, "younger", 2),)))

    def test_by_ground_where_a_standing_claim_reaches_by_dip(self):
        facts = [(1, EAST), (2, stake(1, 4, 0, 7, 5)), (3, stake(2, 1, 1, 1, 1))]
        case = (facts, 5, (4, 1, 3), None)
        for word in WORDS:
            self.bad(case, ("held", 2, ("ground",), (2,), ((3, word, 3),)))
        self.bad(case, ("held", 2, ("ground",), (2,), ()))
        given = (facts + [(4, ("give", 3))], 5, (4, 1, 3), None)
        self.good(given, ("held", 2, ("ground",), (2,), ((3, "given", 4),)))

    def test_by_ground_without_the_ground(self):
        facts = [(1, EAST), (2, stake(1, 4, 0, 7, 5)), (3, stake(2, 1, 1, 1, 1))]
        case = (facts, 5, (0, 0, 3), ("open", ()))
        self.good(case, case[3])
        self.bad(case, ("held", 2, ("ground",), (2,), ()), ("held", 3, ("ground",), (3,), ()))

    def test_open_where_somebody_stands(self):
        for case in (DIP, GROUND):
            self.bad(case, ("open", case[3][4]), ("open", ()))
            field = self.field(case)
            for word in WORDS:
                for day in (case[3][1], field.claim(case[3][1])[3], field.claim(case[3][1])[2] + 1):
                    self.bad(case, ("open", tuple(sorted(case[3][4] + ((case[3][1], word, day),)))))

    def test_held_where_it_is_open(self):
        field = self.field(OPEN)
        for claim in field.claims() + [1, 18]:
            for way in (("ground",), ("dip", 1, 0)):
                rest = tuple(triple for triple in OPEN[3][1] if triple[0] != claim)
                for years in (field.years(claim), ()) if claim in field.claims() else ((claim,), ()):
                    self.bad(OPEN, ("held", claim, way, tuple(years), rest), ("held", claim, way, tuple(years), OPEN[3][1]))

    def test_by_a_claim_that_is_not_vested(self):
        case = ([(2, stake(1, *ALL))], 5, (0, 0, 0), ("open", ((2, "unvested", 2),)))
        self.good(case, case[3])
        self.bad(case, ("held", 2, ("ground",), (2,), ()), ("open", ()))

    def test_another_claim_s_paper_another_spot_s_and_another_day_s(self):
        for case in CASES:
            field = self.field(case)
            for spot in spots_of(SIZE):
                for other in spots_of(SIZE)[::7]:
                    told = paper(field, other)
                    self.assertIs(judge(field, spot, told), literal(field, spot, told))
            for day in range(case[1] + 1, case[1] + 20):
                field.pass_to(day)
                self.assertIs(judge(field, case[2], case[3]), literal(field, case[2], case[3]))
                later = paper(field, case[2])
                self.assertIs(judge(self.field(case), case[2], later), literal(self.field(case), case[2], later))
            self.assertIs(judge(field, case[2], case[3]), False)
        self.bad(DIP, GROUND[3], OPEN[3])
        self.bad(GROUND, DIP[3], OPEN[3])
        self.bad(OPEN, DIP[3], GROUND[3])

    def test_another_spot_s_paper(self):
        facts = [(1, EAST), (2, stake(1, 0, 0, 3, 5)), (3, stake(2, 4, 0, 7, 5))]
        field = entered(SIZE, 10, facts)
        self.assertIs(judge(field, (7, 5, 0), paper(field, (0, 0, 0))), False)
        self.assertIs(judge(field, (0, 0, 0), paper(field, (7, 5, 0))), False)
        self.assertIs(judge(field, (4, 1, 2), paper(field, (4, 1, 3))), False)
        self.assertIs(judge(field, (3, 0, 1), paper(field, (0, 0, 0))), True)

    def test_another_day_s_paper(self):
        facts = [(1, EAST), (2, stake(1, *ALL)), (3, stake(2, *ALL))]
        told = ("held", 2, ("ground",), (2,), ((3, "younger", 3),))
        ahead = ("held", 2, ("ground",), (2,), ())
        self.assertIs(judge(entered(SIZE, 10, facts[:2]), (7, 5, 3), ahead), True)
        self.assertIs(judge(entered(SIZE, 10, facts), (7, 5, 3), ahead), False)
        self.assertIs(judge(entered(SIZE, 10, facts[:2]), (7, 5, 3), told), False)
        self.assertIs(judge(entered(SIZE, 10, facts, 12), (7, 5, 3), told), True)
        self.assertIs(judge(entered(SIZE, 10, facts, 13), (7, 5, 3), told), False)

    def test_out_of_ground_ahead_of_all_else(self):
        papers = [case[3] for case in CASES] + [
            ("open", ()), ("held", HUGE, ("ground",), (), ()), ("held", -1, ("dip", 0, -1), (0, 0), ((1, "none", 1),)),
        ]
        for field in [Field(*SIZE, 10)] + [self.field(case) for case in CASES]:
            for spot in beyond(SIZE):
                for handed in papers:
                    self.refused(OutOfGround, judge, field, spot, handed)

    def test_on_day_nought(self):
        field = Field(*SIZE, 10)
        for handed in (DIP[3], GROUND[3], OPEN[3], ("held", 0, ("ground",), (), ()), ("held", 0, ("ground",), (0,), ())):
            self.assertIs(judge(field, (0, 0, 0), handed), False)

    def test_judging_changes_nothing(self):
        for case in CASES:
            field = self.field(case)
            for handed in (DIP[3], GROUND[3], OPEN[3]):
                judge(field, case[2], handed)
            self.refused(OutOfGround, judge, field, (-1, 0, 0), case[3])
            self.assertEqual(paper(field, case[2]), case[3])
            self.assertEqual(field.today(), case[1])


class AllPapersTest(Asked):
    """Point 16: those judged good name one claim, or are open, and it is the one to whom the spot belongs.

    Made are all papers of the known claims and columns, of one year or two, and of rising others with some days.
    """

    def all_papers(self, field, spot, days):
        claims = field.claims()
        ways = [("ground",)] + [("dip", vein, column) for vein in field.veins() for column in range(len(field.vein(vein)[1]))]
        choices = [[None] + [(claim, word, day) for word in WORDS for day in days] for claim in claims]
        all_others = [tuple(one for one in some if one is not None) for some in itertools.product(*choices)]
        years = [some for many in (1, 2) for some in itertools.combinations(sorted(set(sum(map(field.years, claims), []))), many)]
        for others in all_others:
            yield ("open", others)
            if len(others) < len(claims):
                for claim in claims:
                    for way in ways:
                        for some in years:
                            yield ("held", claim, way, some, others)

    def check(self, facts, spot, days, day=None, size=SIZE):
        field = entered(size, 10, facts, day)
        good = [handed for handed in self.all_papers(field, spot, days) if judge(field, spot, handed)]
        named = {handed[1] if handed[0] == "held" else None for handed in good}
        self.assertEqual(named, {title(field, spot)})
        self.assertIn(paper(field, spot), good)
        for handed in good:
            self.assertTrue(literal(field, spot, handed))

    def test_by_dip_with_a_younger_and_with_the_ground(self):
        facts = [(1, EAST), (2, stake(1, 4, 0, 5, 1)), (3, stake(2, 1, 1, 1, 1)), (4, stake(3, 1, 1, 1, 1))]
        self.check(facts, (4, 1, 3), (2, 4))
        self.check(facts, (4, 1, 2), (2, 4))

    def test_by_ground(self):
        self.check([(1, EAST), (2, stake(1, *ALL)), (3, stake(2, *ALL)), (4, ("part", 2, 0, 4, 3))], (7, 5, 3), (2, 3))

    def test_given_and_fallen(self):
        facts = [(1, EAST), (2, stake(1, *ALL)), (3, stake(2, *ALL)), (4, ("give", 2)), (9, stake(3, *ALL))]
        self.check(facts, (4, 1, 3), (4, 9), day=12)
        self.check(facts, (4, 1, 3), (4, 14), day=14)
        self.check(facts, (4, 1, 3), (4, 14, 20), day=20)

    def test_open(self):
        self.check([(2, stake(1, *ALL)), (3, stake(2, 0, 0, 1, 1))], (0, 0, 0), (2, 3))
        self.check([(1, EAST)], (1, 1, 0), ())

    def test_by_both_of_two_veins(self):
        self.check([(1, STRAIGHT), (2, EAST), (3, stake(1, 1, 1, 2, 1)), (4, stake(2, 2, 1, 2, 1))], (2, 1, 1), (3, 4))


class RandomTest(Asked):
    def spoilt(self, source, field, told):
        """The paper with one thing or two changed at random."""
        def number(one):
            return source.choice((one - 1, one + 1, 0, source.choice(field.claims() + field.veins() + [field.today()])))

        def things(some):
            some = list(some)
            if some and source.random() < 0.5:
                some.pop(source.randrange(len(some)))
            elif source.random() < 0.5:
                source.shuffle(some)
            return tuple(some)

        def changed(triples):
            if not triples:
                return ((number(1), source.choice(WORDS), number(1)),)
            place = source.randrange(len(triples))
            triple = list(triples[place])
            part = source.randrange(3)
            triple[part] = source.choice(WORDS) if part == 1 else number(triple[part])
            return triples[:place] + (tuple(triple),) + triples[place + 1:]

        spoilt = list(told)
        part = source.randrange(1, len(told))
        if part == len(told) - 1:
            spoilt[part] = source.choice((things, changed))(told[part])
        elif part == 1:
            spoilt[1] = number(told[1])
        elif part == 2:
            vein = source.choice(field.veins() + [0])
            spoilt[2] = source.choice((("ground",), ("dip", vein, source.randint(-1, 3))))
        else:
            spoilt[3] = source.choice((things(told[3]), told[3] + (number(told[3][-1]),), tuple(field.years(source.choice(field.claims())))))
        return tuple(spoilt)

    def test_random_fields(self):
        goods = 0
        for seed in range(40):
            source = random.Random(seed)
            size = (source.randint(1, 5), source.randint(1, 5), source.randint(0, 3))
            term = source.choice((3, 8, 20, 60))
            facts = random_facts(source, size, term, 45)
            field = Field(*size, term)
            for many, (day, fact) in enumerate(facts, start=1):
                field.enter(day, fact)
                if many % 9 == 0 and field.claims() and field.veins():
                    goods += self.check_spots(source, field)
        self.assertGreater(goods, 20)

    def check_spots(self, source, field):
        goods = 0
        for spot in source.sample(spots_of(field.size()), min(8, len(spots_of(field.size())))):
            told = paper(field, spot)
            self.assertEqual(title(field, spot), told[1] if told[0] == "held" else None)
            self.assertIs(judge(field, spot, told), True)
            self.assertTrue(literal(field, spot, told))
            if told[0] == "held":
                self.assertEqual(told[3], tuple(field.years(told[1])))
                self.assertEqual(told[2], ("dip",) + min(by_dip(field, told[1], spot)) if told[2] != ("ground",) else told[2])
            for round_number in range(6):
                handed = self.spoilt(source, field, told)
                good = literal(field, spot, handed)
                self.assertIs(judge(field, spot, handed), good, (spot, handed))
                goods += good and handed != told
        return goods

    def test_asked_behind_each_fact_or_at_the_end_alone(self):
        for seed in range(50, 56):
            source = random.Random(seed)
            size, term = (4, 4, 2), source.choice((8, 30))
            facts = random_facts(source, size, term, 40)
            asked, twins = Field(*size, term), []
            for many, (day, fact) in enumerate(facts):
                if many % 10 == 0:
                    twins.append((many, asked.twin()))
                asked.enter(day, fact)
                for spot in spots_of(size)[many % 5::5]:
                    told = paper(asked, spot)
                    self.assertIs(judge(asked, spot, told), True)
            plain = entered(size, term, facts)
            last = [paper(plain, spot) for spot in spots_of(size)]
            self.assertEqual([paper(asked, spot) for spot in spots_of(size)], last)
            for many, twin in twins:
                before = [paper(twin, spot) for spot in spots_of(size)]
                self.assertEqual(before, [paper(entered(size, term, facts[:many]), spot) for spot in spots_of(size)])
                for day, fact in facts[many:]:
                    twin.enter(day, fact)
                self.assertEqual([paper(twin, spot) for spot in spots_of(size)], last)


if __name__ == "__main__":
    unittest.main()
