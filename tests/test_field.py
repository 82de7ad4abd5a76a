"""Points 1, 2, 3, 8, 9, 10 and 15: the field, its refusals, the words of its facts, states and years, and its twins."""

import unittest

from dipright.errors import BadFact, BadNumber, DiprightError, Late, NoClaim, NoVein
from dipright.field import Field

HUGE = 10 ** 40 - 1  # the greatest number of 40 figures
SIZE = (7, 5, 3)
TERM = 10
VEIN = ("vein", (1, 0, 3), ((1, 1), (4, 2)))
DEEP_VEIN = ("vein", (0, 0, 0), ((6, 4),))
WRONG_DAYS = (0, -1, -2, -400, 401, 402, 1000, HUGE, -HUGE)
UNSOUND = (
    ("vein", (0, 0), ((1, 1),)),
    ("vein", (0, 0, 5), ((1, 1),)),
    ("vein", (0, 0, 0), ()),
    ("vein", (0, 0, 0), ((7, 1),)),
    ("vein", (0, 0, 0), ((1, 1), (1, 1))),
    ("join", 1, 2, 0),
    ("join", 1, 2, 4),
    ("join", 0, 2, 1),
    ("stake", 1, 0, 0, 7, 1),
    ("stake", 1, 2, 0, 1, 1),
    ("stake", 41, 0, 0, 1, 1),
    ("work", 0),
    ("work", 401),
    ("work",),
    ("work", 1, 1),
    ("work", "1"),
    ("sell", 1, 0),
    ("part", 1, 2, 1, 1),
    ("part", 1, 0, 0, 1),
    ("part", 1, 0, 24, 1),
    ("give", (1,)),
    ("dig", 1, 0, 0, 0, 0, 4, 1),
    ("dig", 1, 0, 5, 0, 0, 0, 1),
    ("dig", 1, 0, 0, 0, 0, 0, 0),
    ("pay", 1, 1, 5),
    ("pay", 1, 2, 10 ** 6 + 1),
    ("vested", 1),
    ("",),
)
# One sound fact of each word; on a field without facts some are good and some idle.
SOUND = (
    VEIN, ("join", 1, 2, 1), ("stake", 1, 0, 0, 6, 4), ("work", 1), ("sell", 1, 2), ("part", 1, 0, 3, 2), ("give", 1),
    ("dig", 1, 0, 0, 0, 0, 0, 1), ("pay", 1, 2, 5),
)
# A little of everything: claims in each state, veins with a join, entries.
STORY = (
    (1, ("stake", 1, 0, 0, 3, 2)),
    (2, ("stake", 2, 3, 2, 6, 4)),
    (3, VEIN),
    (4, DEEP_VEIN),
    (5, ("join", 4, 3, 2)),
    (6, ("stake", 3, 0, 3, 2, 4)),
    (7, ("part", 1, 0, 2, 4)),
    (8, ("work", 1)),
    (9, ("give", 2)),
    (10, ("dig", 9, 0, 0, 4, 2, 0, 100)),
    (11, ("dig", 9, 0, 0, 1, 1, 0, 70)),
    (12, ("pay", 9, 1, 3)),
    (13, ("stake", 5, 5, 3, 6, 4)),
)


def made(size=SIZE, term=TERM, facts=()):
    field = Field(*size, term)
    for day, fact in facts:
        field.enter(day, fact)
    return field


def told(field):
    """All that a field tells."""
    return {
        "today": field.today(),
        "size": field.size(),
        "term": field.term(),
        "veins": [(name, field.vein(name), field.joined(name)) for name in field.veins()],
        "claims": [(name, field.claim(name), field.state(name), field.years(name)) for name in field.claims()],
        "standing": field.standing(),
        "entries": field.entries(),
    }


class Told(unittest.TestCase):
    def refused(self, kind, call, *handed):
        with self.assertRaises(kind, msg=repr(handed)) as caught:
            call(*handed)
        self.assertIs(type(caught.exception), kind)
        self.assertIsInstance(caught.exception, DiprightError)

    def words(self, field, facts):
        return [field.enter(day, fact) for day, fact in facts]

    def idle(self, field, day, fact, word):
        """The fact is idle with this word, and changes nothing but the day."""
        twin = field.twin()
        twin.pass_to(day)
        self.assertEqual(field.enter(day, fact), word)
        self.assertEqual(told(field), told(twin))


class DistrictTest(Told):
    def test_both_bounds(self):
        for numbers in ((1, 1, 0, 1), (24, 24, 12, 400), (24, 1, 0, 400), (1, 24, 12, 1), (7, 5, 3, 10)):
            field = Field(*numbers)
            self.assertEqual(field.size(), numbers[:3])
            self.assertEqual(field.term(), numbers[3])

    def test_just_beyond(self):
        for numbers in ((0, 5, 3, 10), (25, 5, 3, 10), (7, 0, 3, 10), (7, 25, 3, 10), (7, 5, -1, 10), (7, 5, 13, 10),
                        (7, 5, 3, 0), (7, 5, 3, 401)):
            self.refused(BadNumber, Field, *numbers)

    def test_far_beyond_and_several_at_once(self):
        for wrong in (-1, -24, 1000, HUGE, -HUGE):
            for place in range(4):
                numbers = [7, 5, 3, 10]
                numbers[place] = wrong
                self.refused(BadNumber, Field, *numbers)
            self.refused(BadNumber, Field, wrong, wrong, wrong, wrong)

    def test_a_new_field(self):
        self.assertEqual(told(Field(7, 5, 3, 10)), {
            "today": 0, "size": (7, 5, 3), "term": 10, "veins": [], "claims": [], "standing": [], "entries": [],
        })

    def test_the_kinds(self):
        field = made(facts=STORY)
        self.assertIs(type(field.size()), tuple)
        for number in field.size() + (field.today(), field.term()):
            self.assertIs(type(number), int)
        for list_told in (field.veins(), field.claims(), field.standing(), field.entries(), field.years(1)):
            self.assertIs(type(list_told), list)
        for name in field.veins():
            steps, cells = field.vein(name)
            self.assertIs(type(field.vein(name)), tuple)
            self.assertIs(type(steps), tuple)
            self.assertTrue(all(type(cell) is tuple for cell in cells) and type(cells) is tuple)
        self.assertIs(type(field.joined(4)), tuple)
        for name in field.claims():
            self.assertIs(type(field.claim(name)), tuple)
            self.assertIs(type(field.claim(name)[1]), tuple)
        self.assertTrue(all(type(entry) is tuple for entry in field.entries()))


class RefusalTest(Told):
    def setUp(self):
        self.field = made(facts=STORY)
        self.field.pass_to(20)
        self.before = told(self.field)

    def refused_here(self, kind, call, *handed):
        self.refused(kind, call, *handed)
        self.assertEqual(told(self.field), self.before)

    def test_enter_no_day(self):
        for day in WRONG_DAYS:
            for fact in SOUND:
                self.refused_here(BadNumber, self.field.enter, day, fact)

    def test_enter_no_sound_fact(self):
        for fact in UNSOUND:
            self.refused_here(BadFact, self.field.enter, 21, fact)
            self.refused_here(BadFact, self.field.enter, 400, fact)

    def test_enter_late(self):
        for day in (1, 2, 13, 19, 20):
            for fact in SOUND:
                self.refused_here(Late, self.field.enter, day, fact)

    def test_enter_no_day_and_no_sound_fact(self):
        for day in WRONG_DAYS:
            for fact in UNSOUND:
                self.refused_here(BadNumber, self.field.enter, day, fact)

    def test_enter_no_sound_fact_and_late(self):
        for day in (1, 13, 20):
            for fact in UNSOUND:
                self.refused_here(BadFact, self.field.enter, day, fact)

    def test_pass_to_no_day(self):
        for day in WRONG_DAYS:
            self.refused_here(BadNumber, self.field.pass_to, day)

    def test_pass_to_an_earlier_day(self):
        for day in (1, 13, 19):
            self.refused_here(Late, self.field.pass_to, day)

    def test_no_such_vein(self):
        for name in (1, 2, 5, 7, 14, 20, 0, -3, 401, HUGE, -HUGE):
            self.refused_here(NoVein, self.field.vein, name)
            self.refused_here(NoVein, self.field.joined, name)

    def test_no_such_claim(self):
        for name in (3, 4, 5, 8, 9, 14, 20, 0, -1, 401, HUGE, -HUGE):
            self.refused_here(NoClaim, self.field.claim, name)
            self.refused_here(NoClaim, self.field.state, name)
            self.refused_here(NoClaim, self.field.years, name)

    def test_refused_facts_leave_no_trace(self):
        plain = self.field.twin()
        for fact in (("dig", 1, 0, 0, 5, 1, 1, 5), ("stake", 9, 0, 0, 0, 0), DEEP_VEIN, ("join", 4, 3, 1), ("give", 13)):
            self.refused(Late, self.field.enter, 20, fact)
            self.refused(BadNumber, self.field.enter, 401, fact)
        facts = [
            (21, ("dig", 1, 0, 0, 5, 1, 1, 5)),
            (22, DEEP_VEIN),
            (23, ("join", 22, 4, 1)),
            (24, ("work", 13)),
            (25, ("stake", 9, 0, 0, 6, 4)),
        ]
        self.assertEqual(self.words(self.field, facts), ["good", "good", "good", "ended", "good"])
        self.words(plain, facts)
        self.assertEqual(told(self.field), told(plain))


class DaysTest(Told):
    def test_a_fact_moves_the_day(self):
        field = made()
        for day, fact in ((3, ("stake", 1, 0, 0, 1, 1)), (4, ("work", 9)), (10, ("pay", 1, 2, 3)), (400, ("give", 3))):
            field.enter(day, fact)
            self.assertEqual(field.today(), day)

    def test_the_first_and_the_last_day(self):
        field = made()
        self.assertEqual(field.enter(1, ("stake", 1, 0, 0, 1, 1)), "good")
        self.assertEqual(field.enter(400, ("pay", 1, 2, 3)), "good")
        self.refused(Late, field.enter, 400, ("pay", 1, 2, 3))

    def test_at_most_one_fact_a_day(self):
        field = made(facts=[(5, ("stake", 1, 0, 0, 1, 1))])
        self.refused(Late, field.enter, 5, ("work", 5))
        self.assertEqual(field.enter(6, ("work", 5)), "good")

    def test_an_idle_fact_takes_its_day(self):
        field = made(facts=[(5, ("work", 1))])
        self.refused(Late, field.enter, 5, ("stake", 1, 0, 0, 1, 1))
        self.assertEqual(field.today(), 5)

    def test_passing_on(self):
        field = made()
        self.assertIsNone(field.pass_to(1))
        self.assertEqual(field.today(), 1)
        self.assertIsNone(field.pass_to(1))
        self.assertEqual(field.today(), 1)
        self.assertIsNone(field.pass_to(7))
        self.refused(Late, field.pass_to, 6)
        self.refused(Late, field.enter, 7, ("pay", 1, 2, 3))
        self.refused(Late, field.enter, 6, ("pay", 1, 2, 3))
        self.assertEqual(field.enter(8, ("pay", 1, 2, 3)), "good")
        self.assertIsNone(field.pass_to(8))
        self.assertIsNone(field.pass_to(400))
        self.assertIsNone(field.pass_to(400))
        self.assertEqual(field.today(), 400)

    def test_no_day_is_refused_on_day_nought_too(self):
        field = made()
        for day in WRONG_DAYS:
            self.refused(BadNumber, field.pass_to, day)
            self.refused(BadNumber, field.enter, day, ("pay", 1, 2, 3))
        self.assertEqual(field.today(), 0)


class VeinWordsTest(Told):
    def test_a_vein(self):
        field = made()
        self.assertEqual(field.enter(3, VEIN), "good")
        self.assertEqual(field.veins(), [3])
        self.assertEqual(field.vein(3), ((1, 0, 3), ((1, 1), (4, 2))))
        self.assertIsNone(field.joined(3))

    def test_veins_alike_are_two(self):
        field = made()
        self.assertEqual(self.words(field, [(3, VEIN), (9, VEIN), (10, DEEP_VEIN), (100, VEIN)]), ["good"] * 4)
        self.assertEqual(field.veins(), [3, 9, 10, 100])
        self.assertEqual(field.vein(9), field.vein(3))
        self.assertEqual(field.vein(10), DEEP_VEIN[1:])

    def test_a_vein_without_floors(self):
        field = made(size=(7, 5, 0))
        self.assertEqual(field.enter(1, ("vein", (), ((0, 0),))), "good")
        self.assertEqual(field.vein(1), ((), ((0, 0),)))

    def test_a_join(self):
        field = made(facts=[(3, VEIN), (4, DEEP_VEIN)])
        self.assertEqual(field.enter(5, ("join", 4, 3, 2)), "good")
        self.assertEqual(field.joined(4), (3, 2))
        self.assertIsNone(field.joined(3))

    def test_a_join_at_both_bounds(self):
        field = made(facts=[(3, VEIN), (4, VEIN), (5, VEIN)])
        self.assertEqual(self.words(field, [(6, ("join", 4, 3, 1)), (7, ("join", 5, 3, 3))]), ["good", "good"])
        self.assertEqual((field.joined(4), field.joined(5)), ((3, 1), (3, 3)))

    def test_no_such_veins(self):
        facts = [(3, VEIN), (4, VEIN), (5, ("stake", 1, 0, 0, 1, 1))]
        for vein, other in ((4, 2), (2, 3), (1, 2), (9, 3), (400, 3), (3, 9), (5, 4), (5, 3), (7, 7), (6, 3), (3, 6)):
            self.idle(made(facts=facts), 6, ("join", vein, other, 1), "novein")

    def test_order(self):
        facts = [(3, VEIN), (4, VEIN), (10, VEIN)]
        for vein, other in ((3, 4), (3, 3), (4, 4), (4, 10), (3, 10)):
            self.idle(made(facts=facts), 16, ("join", vein, other, 1), "order")

    def test_joined(self):
        facts = [(3, VEIN), (4, VEIN), (5, VEIN), (6, ("join", 5, 4, 2))]
        for other in (3, 4):
            for floor in (1, 2, 3):
                self.idle(made(facts=facts), 7, ("join", 5, other, floor), "joined")

    def test_the_reasons_of_a_join_in_their_order(self):
        facts = [(3, VEIN), (4, VEIN), (5, VEIN), (6, ("join", 4, 3, 2))]
        self.idle(made(facts=facts), 7, ("join", 4, 9, 1), "novein")
        self.idle(made(facts=facts), 7, ("join", 4, 2, 1), "novein")
        self.idle(made(facts=facts), 7, ("join", 9, 10, 1), "novein")
        self.idle(made(facts=facts), 7, ("join", 9, 9, 1), "novein")
        self.idle(made(facts=facts), 7, ("join", 4, 5, 1), "order")
        self.idle(made(facts=facts), 7, ("join", 4, 4, 1), "order")
        self.idle(made(facts=facts), 7, ("join", 4, 3, 1), "joined")

    def test_a_vein_that_was_joined_may_join(self):
        field = made(facts=[(3, VEIN), (4, VEIN), (5, VEIN), (6, ("join", 5, 4, 2))])
        self.assertEqual(field.enter(7, ("join", 4, 3, 1)), "good")
        self.assertEqual((field.joined(5), field.joined(4), field.joined(3)), ((4, 2), (3, 1), None))

    def test_an_idle_join_does_not_count(self):
        field = made(facts=[(3, VEIN), (4, VEIN), (5, ("join", 4, 9, 1)), (6, ("join", 3, 4, 1))])
        self.assertEqual(field.enter(7, ("join", 4, 3, 1)), "good")

    def test_joins_of_one_vein_by_several(self):
        field = made(facts=[(3, VEIN), (4, VEIN), (5, VEIN)])
        self.assertEqual(self.words(field, [(6, ("join", 5, 3, 2)), (7, ("join", 4, 3, 2))]), ["good", "good"])


class ClaimWordsTest(Told):
    def test_a_stake(self):
        field = made()
        self.assertEqual(field.enter(5, ("stake", 3, 1, 0, 6, 4)), "good")
        self.assertEqual(field.claims(), [5])
        self.assertEqual(field.claim(5), (3, (1, 0, 6, 4), 15, None, None))
        self.assertEqual(field.state(5), "unvested")
        self.assertEqual(field.years(5), [5])

    def test_stakes_over_one_another(self):
        field = made()
        facts = [(day, ("stake", day, 0, 0, 6, 4)) for day in (5, 6, 10)]
        self.assertEqual(self.words(field, facts), ["good"] * 3)
        self.assertEqual(field.claims(), [5, 6, 10])
        self.assertEqual([field.claim(name)[0] for name in (5, 6, 10)], [5, 6, 10])

    def test_no_claim(self):
        facts = [(3, VEIN), (5, ("stake", 1, 0, 0, 3, 3)), (6, ("pay", 1, 2, 3)), (7, ("work", 5))]
        for name in (1, 3, 4, 6, 7, 8, 9, 400):
            for fact in (("work", name), ("sell", name, 2), ("part", name, 0, 2, 2), ("give", name)):
                self.idle(made(facts=facts), 8, fact, "noclaim")

    def test_a_claim_is_not_known_ahead_of_its_day(self):
        field = made()
        facts = [(4, ("work", 5)), (5, ("stake", 1, 0, 0, 3, 3)), (6, ("work", 5))]
        self.assertEqual(self.words(field, facts), ["noclaim", "good", "good"])
        self.assertEqual(field.years(5), [5, 6])

    def test_ended(self):
        given = [(5, ("stake", 1, 0, 0, 3, 3)), (6, ("give", 5))]
        fallen = [(5, ("stake", 1, 0, 0, 3, 3))]
        for fact in (("work", 5), ("sell", 5, 2), ("part", 5, 0, 2, 2), ("part", 5, 0, 9, 2), ("give", 5)):
            self.idle(made(facts=given), 7, fact, "ended")
            self.idle(made(facts=given), 30, fact, "ended")
            self.idle(made(facts=fallen), 16, fact, "ended")
            self.idle(made(facts=fallen), 400, fact, "ended")

    def test_on_the_last_day_it_has_not_ended(self):
        for fact in (("work", 5), ("sell", 5, 2), ("part", 5, 0, 2, 2), ("give", 5)):
            self.assertEqual(made(facts=[(5, ("stake", 1, 0, 0, 3, 3))]).enter(15, fact), "good")

    def test_work(self):
        field = made(facts=[(5, ("stake", 1, 0, 0, 3, 3))])
        self.assertEqual(field.enter(7, ("work", 5)), "good")
        self.assertEqual(field.claim(5), (1, (0, 0, 3, 3), 17, None, None))
        self.assertEqual(field.enter(17, ("work", 5)), "good")
        self.assertEqual(field.claim(5), (1, (0, 0, 3, 3), 27, None, None))
        self.idle(field, 28, ("work", 5), "ended")
        self.idle(field, 29, ("work", 5), "ended")
        self.assertEqual(field.years(5), [5, 7, 17])

    def test_work_on_one_claim_keeps_no_other(self):
        field = made(facts=[(5, ("stake", 1, 0, 0, 3, 3)), (6, ("stake", 1, 0, 0, 3, 3)), (7, ("work", 5))])
        self.assertEqual((field.claim(5)[2], field.claim(6)[2]), (17, 16))
        self.assertEqual((field.years(5), field.years(6)), ([5, 7], [6]))

    def test_sell(self):
        field = made(facts=[(5, ("stake", 1, 0, 0, 3, 3)), (6, ("stake", 1, 0, 0, 3, 3))])
        self.assertEqual(field.enter(7, ("sell", 5, 40)), "good")
        self.assertEqual(field.claim(5), (40, (0, 0, 3, 3), 15, None, None))
        self.assertEqual(field.claim(6), (1, (0, 0, 3, 3), 16, None, None))
        self.assertEqual(field.enter(8, ("sell", 5, 1)), "good")
        self.assertEqual(field.claim(5)[0], 1)

    def test_sell_to_the_owner(self):
        field = made(facts=[(5, ("stake", 1, 0, 0, 3, 3))])
        before = field.claim(5)
        self.assertEqual(field.enter(7, ("sell", 5, 1)), "good")
        self.assertEqual(field.claim(5), before)
        self.assertEqual(field.years(5), [5])

    def test_give(self):
        field = made(facts=[(5, ("stake", 1, 0, 0, 3, 3))])
        self.assertEqual(field.enter(7, ("give", 5)), "good")
        self.assertEqual(field.claim(5), (1, (0, 0, 3, 3), 15, None, 7))
        self.assertEqual(field.state(5), "given")
        self.assertEqual(field.claims(), [5])

    def test_part_across_side_nought(self):
        field = made(facts=[(5, ("stake", 1, 1, 0, 5, 4))])
        self.assertEqual(field.enter(7, ("part", 5, 0, 3, 2)), "good")
        self.assertEqual(field.claim(5), (1, (1, 0, 2, 4), 15, None, None))
        self.assertEqual(field.claim(7), (2, (3, 0, 5, 4), 15, None, None))
        self.assertEqual(field.claims(), [5, 7])

    def test_part_across_side_one(self):
        field = made(facts=[(5, ("stake", 1, 1, 0, 5, 4))])
        self.assertEqual(field.enter(7, ("part", 5, 1, 3, 1)), "good")
        self.assertEqual(field.claim(5), (1, (1, 0, 5, 2), 15, None, None))
        self.assertEqual(field.claim(7), (1, (1, 3, 5, 4), 15, None, None))

    def test_part_at_its_bounds(self):
        facts = [(5, ("stake", 1, 2, 1, 5, 3))]
        for side, good in ((0, (3, 4, 5)), (1, (2, 3))):
            for line in range(1, 24):
                if line in good:
                    self.assertEqual(made(facts=facts).enter(7, ("part", 5, side, line, 2)), "good")
                else:
                    self.idle(made(facts=facts), 7, ("part", 5, side, line, 2), "nocut")

    def test_part_of_one_cell(self):
        facts = [(5, ("stake", 1, 2, 2, 2, 2))]
        for side in (0, 1):
            for line in (1, 2, 3):
                self.idle(made(facts=facts), 7, ("part", 5, side, line, 2), "nocut")

    def test_an_idle_parting_makes_no_claim(self):
        field = made(facts=[(5, ("stake", 1, 2, 1, 5, 3)), (6, ("part", 5, 0, 2, 2))])
        self.assertEqual(field.claims(), [5])
        self.idle(field, 7, ("work", 6), "noclaim")

    def test_the_reasons_of_a_parting_in_their_order(self):
        facts = [(5, ("stake", 1, 2, 1, 5, 3)), (6, ("stake", 1, 2, 1, 5, 3)), (7, ("give", 6))]
        self.idle(made(facts=facts), 8, ("part", 4, 0, 20, 2), "noclaim")
        self.idle(made(facts=facts), 8, ("part", 6, 0, 20, 2), "ended")
        self.idle(made(facts=facts), 16, ("part", 5, 0, 20, 2), "ended")
        self.idle(made(facts=facts), 8, ("part", 5, 0, 20, 2), "nocut")

    def test_pieces_are_parted(self):
        field = made(facts=[(5, ("stake", 1, 0, 0, 6, 4))])
        facts = [(6, ("part", 5, 0, 4, 2)), (7, ("part", 6, 1, 2, 3)), (8, ("part", 5, 0, 1, 4)), (9, ("part", 5, 0, 1, 4))]
        self.assertEqual(self.words(field, facts), ["good", "good", "good", "nocut"])
        self.assertEqual([field.claim(name)[:2] for name in field.claims()], [
            (1, (0, 0, 0, 4)), (2, (4, 0, 6, 1)), (3, (4, 2, 6, 4)), (4, (1, 0, 3, 4)),
        ])


class DigAndPayWordsTest(Told):
    def test_a_dig(self):
        field = made()
        self.assertEqual(field.enter(5, ("dig", 1, 0, 0, 6, 4, 3, 10 ** 6)), "good")
        self.idle(field, 6, ("dig", 1, 0, 0, 6, 4, 3, 10 ** 6), "dug")

    def test_dug_by_the_spot_alone(self):
        field = made(facts=[(5, ("dig", 1, 0, 0, 3, 2, 1, 10))])
        self.idle(field, 6, ("dig", 2, 6, 4, 3, 2, 1, 99), "dug")
        facts = [
            (7, ("dig", 1, 0, 0, 3, 2, 0, 10)),
            (8, ("dig", 1, 0, 0, 3, 2, 2, 10)),
            (9, ("dig", 1, 0, 0, 3, 1, 1, 10)),
            (10, ("dig", 1, 0, 0, 2, 2, 1, 10)),
            (11, ("dig", 1, 0, 0, 2, 3, 1, 10)),
            (12, ("dig", 1, 3, 2, 0, 0, 1, 10)),
        ]
        self.assertEqual(self.words(field, facts), ["good"] * 6)
        self.idle(field, 13, ("dig", 3, 3, 2, 3, 2, 0, 10), "dug")

    def test_an_idle_dig_brings_nothing(self):
        field = made(facts=[(1, VEIN), (2, ("stake", 1, 0, 0, 6, 4)), (3, ("dig", 2, 0, 0, 3, 2, 1, 10))])
        before = field.entries()
        self.idle(field, 4, ("dig", 2, 0, 0, 3, 2, 1, 20), "dug")
        self.assertEqual(field.entries(), before)

    def test_a_payment(self):
        field = made()
        facts = [(5, ("pay", 1, 40, 1)), (6, ("pay", 40, 1, 10 ** 6)), (7, ("pay", 1, 40, 1))]
        self.assertEqual(self.words(field, facts), ["good"] * 3)
        self.assertEqual((field.claims(), field.veins(), field.standing()), ([], [], []))


class StateTest(Told):
    def states(self, field, name, days):
        found = []
        for day in days:
            field.pass_to(day)
            found.append(field.state(name))
        return found

    def test_kept_to_the_last_day(self):
        field = made(facts=[(3, VEIN), (5, ("stake", 1, 0, 0, 3, 3))])
        self.assertEqual(self.states(field, 5, (5, 6, 14, 15, 16, 17, 400)), ["stands"] * 4 + ["fallen"] * 3)

    def test_a_term_of_one_day(self):
        field = made(term=1, facts=[(5, ("stake", 1, 0, 0, 3, 3))])
        self.assertEqual(self.states(field, 5, (5, 6, 7)), ["unvested", "unvested", "fallen"])

    def test_the_longest_term(self):
        field = made(term=400, facts=[(1, ("stake", 1, 0, 0, 3, 3))])
        self.assertEqual(self.states(field, 1, (1, 399, 400)), ["unvested"] * 3)
        self.assertEqual(field.claim(1)[2], 401)
        field = made(term=399, facts=[(1, ("stake", 1, 0, 0, 3, 3))])
        self.assertEqual(self.states(field, 1, (399, 400)), ["unvested"] * 2)
        field = made(term=398, facts=[(1, ("stake", 1, 0, 0, 3, 3))])
        self.assertEqual(self.states(field, 1, (399, 400)), ["unvested", "fallen"])

    def test_kept_by_work_on_the_last_day(self):
        field = made(facts=[(3, VEIN), (5, ("stake", 1, 0, 0, 3, 3)), (15, ("work", 5)), (25, ("work", 5))])
        self.assertEqual(field.claim(5), (1, (0, 0, 3, 3), 35, 5, None))
        self.assertEqual(self.states(field, 5, (25, 26, 35, 36)), ["stands"] * 3 + ["fallen"])

    def test_work_behind_the_fall(self):
        field = made(facts=[(3, VEIN), (5, ("stake", 1, 0, 0, 3, 3)), (16, ("work", 5))])
        self.assertEqual(field.state(5), "fallen")
        self.assertEqual(field.claim(5), (1, (0, 0, 3, 3), 15, 5, None))
        self.assertEqual(field.years(5), [5])

    def test_given(self):
        field = made(facts=[(3, VEIN), (5, ("stake", 1, 0, 0, 3, 3))])
        self.assertEqual(field.state(5), "stands")
        field.enter(7, ("give", 5))
        self.assertEqual(self.states(field, 5, (7, 8, 15, 16, 400)), ["given"] * 5)
        self.assertEqual(field.claim(5), (1, (0, 0, 3, 3), 15, 5, 7))
        self.assertEqual(field.years(5), [5])

    def test_given_on_the_last_day(self):
        field = made(facts=[(3, VEIN), (5, ("stake", 1, 0, 0, 3, 3)), (15, ("give", 5))])
        self.assertEqual(self.states(field, 5, (15, 16)), ["given", "given"])

    def test_unvested(self):
        field = made(facts=[(3, VEIN), (5, ("stake", 1, 5, 3, 6, 4))])
        self.assertEqual(self.states(field, 5, (5, 15, 16)), ["unvested", "unvested", "fallen"])
        self.assertIsNone(field.claim(5)[3])

    def test_an_unvested_one_given_up(self):
        field = made(facts=[(5, ("stake", 1, 5, 3, 6, 4)), (6, ("give", 5))])
        self.assertEqual(self.states(field, 5, (6, 20)), ["given", "given"])

    def test_nothing_ends_this(self):
        facts = [(3, VEIN), (5, ("stake", 1, 0, 0, 3, 3)), (6, ("give", 5)), (7, ("stake", 2, 0, 0, 3, 3)), (8, ("work", 5))]
        field = made(facts=facts)
        self.assertEqual((field.state(5), field.state(7)), ("given", "stands"))
        self.assertEqual(field.claim(5)[1], (0, 0, 3, 3))
        field = made(facts=[(3, VEIN), (5, ("stake", 1, 0, 0, 3, 3)), (16, VEIN), (17, ("stake", 2, 0, 0, 3, 3))])
        self.assertEqual((field.state(5), field.state(17)), ("fallen", "stands"))
        self.assertEqual(field.claim(5), (1, (0, 0, 3, 3), 15, 5, None))

    def test_behind_each_fact(self):
        field = made(facts=[(3, VEIN)])
        rows = []
        for day, fact in ((5, ("stake", 1, 0, 0, 3, 3)), (7, ("sell", 5, 2)), (9, ("work", 5)), (19, ("part", 5, 1, 2, 3)),
                          (20, ("work", 19)), (21, ("pay", 1, 2, 5)), (30, ("give", 19))):
            field.enter(day, fact)
            rows.append([(name, field.claim(name), field.state(name), field.years(name)) for name in field.claims()])
        whole = (0, 0, 3, 3)
        upper, lower = (0, 0, 3, 1), (0, 2, 3, 3)
        self.assertEqual(rows, [
            [(5, (1, whole, 15, 5, None), "stands", [5])],
            [(5, (2, whole, 15, 5, None), "stands", [5])],
            [(5, (2, whole, 19, 5, None), "stands", [5, 9])],
            [(5, (2, upper, 19, 5, None), "stands", [5, 9]), (19, (3, lower, 19, 5, None), "stands", [5, 9])],
            [(5, (2, upper, 19, 5, None), "fallen", [5, 9]), (19, (3, lower, 19, 5, None), "fallen", [5, 9])],
            [(5, (2, upper, 19, 5, None), "fallen", [5, 9]), (19, (3, lower, 19, 5, None), "fallen", [5, 9])],
            [(5, (2, upper, 19, 5, None), "fallen", [5, 9]), (19, (3, lower, 19, 5, None), "fallen", [5, 9])],
        ])


class YearsTest(Told):
    def test_a_piece_has_the_years_of_the_whole_until_then(self):
        field = made(facts=[
            (5, ("stake", 1, 0, 0, 6, 4)), (8, ("work", 5)), (10, ("part", 5, 0, 3, 2)), (12, ("work", 5)), (14, ("work", 10)),
        ])
        self.assertEqual((field.years(5), field.claim(5)[2]), ([5, 8, 12], 22))
        self.assertEqual((field.years(10), field.claim(10)[2]), ([5, 8, 14], 24))

    def test_a_piece_of_a_piece(self):
        field = made(facts=[
            (5, ("stake", 1, 0, 0, 6, 4)), (6, ("part", 5, 0, 3, 2)), (7, ("work", 6)), (8, ("part", 6, 0, 5, 3)),
            (9, ("work", 8)), (10, ("part", 5, 1, 2, 4)),
        ])
        self.assertEqual([(name, field.years(name), field.claim(name)[2]) for name in field.claims()], [
            (5, [5], 15), (6, [5, 7], 17), (8, [5, 7, 9], 19), (10, [5], 15),
        ])

    def test_the_day_of_a_parting_is_no_year(self):
        field = made(facts=[(5, ("stake", 1, 0, 0, 6, 4)), (14, ("part", 5, 0, 3, 2))])
        self.assertEqual((field.years(14), field.claim(14)[2]), ([5], 15))
        field.pass_to(16)
        self.assertEqual((field.state(5), field.state(14)), ("fallen", "fallen"))

    def test_a_piece_falls_by_itself(self):
        field = made(facts=[(3, VEIN), (5, ("stake", 1, 0, 0, 6, 4)), (6, ("part", 5, 0, 3, 2)), (15, ("work", 6))])
        field.pass_to(16)
        self.assertEqual((field.state(5), field.state(6)), ("fallen", "stands"))

    def test_a_piece_is_given_up_by_itself(self):
        facts = [(3, VEIN), (5, ("stake", 1, 0, 0, 6, 4)), (6, ("part", 5, 0, 3, 2))]
        field = made(facts=facts + [(7, ("give", 6))])
        self.assertEqual((field.state(5), field.state(6)), ("stands", "given"))
        field = made(facts=facts + [(7, ("give", 5))])
        self.assertEqual((field.state(5), field.state(6)), ("given", "stands"))
        self.assertEqual((field.claim(5)[4], field.claim(6)[4]), (7, None))

    def test_selling_is_no_year(self):
        field = made(facts=[(5, ("stake", 1, 0, 0, 6, 4)), (7, ("sell", 5, 2))])
        self.assertEqual((field.years(5), field.claim(5)[2]), ([5], 15))

    def test_each_day_once_and_rising(self):
        facts = [(1, ("stake", 1, 0, 0, 6, 4))] + [(day, ("work", 1)) for day in range(2, 401)]
        field = made(facts=facts)
        self.assertEqual(field.years(1), list(range(1, 401)))
        self.assertEqual(field.claim(1)[2], 410)


class OwnWaysTest(Told):
    def test_each_list_told_may_be_changed(self):
        field = made(facts=STORY)
        before = told(field)
        for change in (list.clear, lambda one: one.append(99), lambda one: one.insert(0, 99), list.reverse):
            for tell in (field.veins, field.claims, field.standing, field.entries):
                change(tell())
                self.assertEqual(told(field), before)
            for name in field.claims():
                change(field.years(name))
                self.assertEqual(told(field), before)
        facts = [(14, ("work", 7)), (15, ("part", 1, 1, 1, 2)), (16, VEIN), (17, ("stake", 2, 0, 0, 6, 4))]
        plain = made(facts=STORY)
        self.assertEqual(self.words(field, facts), self.words(plain, facts))
        self.assertEqual(told(field), told(plain))

    def test_a_twin_is_alike(self):
        field = made()
        self.assertEqual(told(field.twin()), told(field))
        for day, fact in STORY:
            field.enter(day, fact)
            self.assertEqual(told(field.twin()), told(field))
            self.assertIsInstance(field.twin(), Field)
        field.pass_to(50)
        self.assertEqual(told(field.twin()), told(field))

    def test_a_field_and_its_twins_go_their_own_ways(self):
        ways = [
            [(14, ("work", 1)), (15, ("give", 7)), (16, ("dig", 1, 0, 0, 6, 4, 3, 9))],
            [(14, ("part", 1, 1, 1, 9)), (15, ("sell", 14, 8)), (16, ("join", 3, 4, 1)), (17, VEIN)],
            [(20, ("stake", 9, 0, 0, 6, 4)), (21, DEEP_VEIN), (22, ("join", 21, 3, 1)), (23, ("pay", 1, 2, 9))],
        ]
        field = made(facts=STORY)
        twin = field.twin()
        fields = [field, twin, twin.twin()]
        ahead = told(field)
        for place, way in enumerate(ways):
            self.words(fields[place], way)
            for other in fields[place + 1:]:
                self.assertEqual(told(other), ahead)
        for one, way in zip(fields, ways):
            self.assertEqual(told(one), told(made(facts=list(STORY) + way)))

    def test_a_twin_goes_on_like_its_field(self):
        for many in range(len(STORY) + 1):
            twin = made(facts=STORY[:many]).twin()
            self.words(twin, STORY[many:])
            self.assertEqual(told(twin), told(made(facts=STORY)))

    def test_a_spot_dug_stays_dug_in_the_twin_alone(self):
        field = made(facts=[(1, ("dig", 1, 0, 0, 1, 1, 1, 5))])
        twin = field.twin()
        self.assertEqual(twin.enter(2, ("dig", 1, 0, 0, 1, 1, 1, 5)), "dug")
        self.assertEqual(twin.enter(3, ("dig", 1, 0, 0, 2, 2, 2, 5)), "good")
        self.assertEqual(field.enter(3, ("dig", 1, 0, 0, 2, 2, 2, 5)), "good")
        self.assertEqual(field.enter(4, ("dig", 1, 0, 0, 1, 1, 1, 5)), "dug")

    def test_a_join_in_one_of_two_twins(self):
        field = made(facts=[(1, VEIN), (2, VEIN), (3, DEEP_VEIN)])
        twin = field.twin()
        self.assertEqual(twin.enter(4, ("join", 3, 1, 2)), "good")
        self.assertIsNone(field.joined(3))
        self.assertEqual(field.enter(5, ("join", 2, 1, 3)), "good")
        self.assertIsNone(twin.joined(2))
        self.assertEqual(field.enter(6, ("join", 3, 2, 1)), "good")
        self.assertEqual((field.joined(3), twin.joined(3)), ((2, 1), (1, 2)))

    def test_each_kind_of_fact_in_one_of_two_twins(self):
        for day, fact in enumerate(SOUND, start=20):
            field = made(term=50, facts=STORY)
            twin = field.twin()
            before = told(field)
            field.enter(day, fact)
            self.assertEqual(told(twin), before)
            field, twin = twin, field
            field.enter(day + 1, fact)
            self.assertEqual(told(twin), told(made(term=50, facts=STORY + ((day, fact),))))

    def test_fields_side_by_side(self):
        small, great = made(size=(1, 1, 0), term=1), made(size=(24, 24, 12), term=400)
        self.assertEqual(small.enter(1, ("stake", 1, 0, 0, 0, 0)), "good")
        self.assertEqual(told(great), told(made(size=(24, 24, 12), term=400)))
        self.assertEqual(great.enter(1, ("stake", 2, 0, 0, 23, 23)), "good")
        self.refused(BadFact, small.enter, 2, ("stake", 1, 0, 0, 1, 0))
        self.assertEqual(great.enter(2, ("vein", (0,) * 12, ((23, 23),))), "good")
        self.assertEqual(small.enter(2, ("vein", (), ((0, 0),))), "good")
        self.assertEqual(small.claim(1), (1, (0, 0, 0, 0), 2, 2, None))
        self.assertEqual(great.claim(1), (2, (0, 0, 23, 23), 401, 2, None))
        self.assertEqual((small.size(), small.term(), great.size(), great.term()), ((1, 1, 0), 1, (24, 24, 12), 400))


if __name__ == "__main__":
    unittest.main()
