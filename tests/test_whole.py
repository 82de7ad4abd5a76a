"""The whole program: each refusal at each door, fields and diaries of unlike sizes by turns, and long diaries."""

import random
import unittest

from dipright.accounts import balance, owes, settlement
from dipright.desk import Desk
from dipright.diary import Diary
from dipright.errors import BadFact, BadNumber, BadText, Late, NoClaim, NoDeed, NoFact, NoVein, OutOfGround, Taken
from dipright.field import Field
from dipright.notes import read_paper, shown_paper
from dipright.papers import judge, paper
from dipright.reach import by_dip, has_ground, reaching
from dipright.rolls import read_roll, written
from dipright.spells import differs, spells, tenures
from dipright.title import heirs, holdings, open_ore, owner, title
from dipright.veins import columns_at, courses, ore
from dipright.words import read_fact
from helper import HUGE, Asked, all_of, beyond, entered, kept, random_facts, spots_of, state_of, titles_of

SIZE = (7, 5, 3)
TERM = 10
FACTS = [
    (2, ("vein", (1, 0, 3), ((1, 1), (4, 2)))), (4, ("stake", 1, 0, 0, 6, 4)), (5, ("part", 4, 0, 3, 2)), (7, ("dig", 3, 0, 0, 5, 3, 1, 20)),
    (8, ("pay", 3, 1, 4)),
]
NO_DAYS = (0, -1, 401, HUGE, -HUGE)
NO_FOLK = (0, -1, 41, HUGE, -HUGE)
NO_NAMES = (0, -1, 1, 3, 6, 400, 401, HUGE, -HUGE)
NO_DISTRICTS = ((0, 5, 3, 10), (25, 5, 3, 10), (7, 0, 3, 10), (7, 25, 3, 10), (7, 5, -1, 10), (7, 5, 13, 10), (7, 5, 3, 0), (7, 5, 3, 401))
PAY = ("pay", 1, 2, 3)
UNSOUND = (("pay", 1, 1, 3), ("work", 0), ("vein", (), ((0, 0),)), ("none",))
NO_FACTS = ("", "work", "work 04", "work 4 4", "vein 103", "held 4 ground years 4 others", " work 4", "work 4\n")
NO_PAPERS = ("", "open", "held 4", "work 4", "open others 4 stands 4", "open others ", " open others", "open others\n")
NO_ROLLS = ("", "district", "district 7 5 3 401", "tell 4 work 4", "district 7 5 3 10\n", "district 7 5 3 10\nstrike 4", "open others")


def told(field):
    return (
        state_of(field), titles_of(field), [paper(field, spot) for spot in spots_of(field.size())], ore(field), holdings(field),
        open_ore(field), [balance(field, who) for who in range(1, 41)], settlement(field),
    )


class DoorsTest(Asked):
    def setUp(self):
        self.field = entered(SIZE, TERM, FACTS, 9)
        self.diary = kept(SIZE, TERM, FACTS)
        self.diary.tell(300, PAY)
        self.diary.undo()
        self.before = (told(self.field), all_of(self.diary), titles_of(self.diary.field(9)))

    def tearDown(self):
        self.assertEqual((told(self.field), all_of(self.diary), titles_of(self.diary.field(9))), self.before)

    def test_badnumber(self):
        for numbers in NO_DISTRICTS:
            for door in (Field, Diary, Desk):
                self.refused(BadNumber, door, *numbers)
        for day in NO_DAYS:
            for fact in (PAY,) + UNSOUND:
                self.refused(BadNumber, self.field.enter, day, fact)
                self.refused(BadNumber, self.diary.tell, day, fact)
            for door in (self.field.pass_to, self.diary.strike, self.diary.word, self.diary.field):
                self.refused(BadNumber, door, day)
            for spot in [(0, 0, 0)] + beyond(SIZE):
                self.refused(BadNumber, spells, self.diary, spot, day)
            self.refused(BadNumber, tenures, self.diary, 4, day)
            self.refused(BadNumber, differs, self.diary, self.diary, day)
        for who in NO_FOLK:
            self.refused(BadNumber, owes, self.field, who, 1)
            self.refused(BadNumber, owes, self.field, 1, who)
            self.refused(BadNumber, balance, self.field, who)

    def test_badfact(self):
        for fact in UNSOUND:
            for day in (1, 9, 10, 400):
                self.refused(BadFact, self.field.enter, day, fact)
            for day in (2, 4, 10, 300):
                self.refused(BadFact, self.diary.tell, day, fact)

    def test_badtext(self):
        for text in NO_FACTS:
            self.refused(BadText, read_fact, text)
        for text in NO_PAPERS:
            self.refused(BadText, read_paper, text)
        for text in NO_ROLLS:
            self.refused(BadText, read_roll, text)

    def test_late(self):
        for day in (1, 8, 9):
            self.refused(Late, self.field.enter, day, PAY)
        for day in (1, 8):
            self.refused(Late, self.field.pass_to, day)

    def test_taken_nofact_nodeed(self):
        for day, fact in FACTS:
            self.refused(Taken, self.diary.tell, day, PAY)
        for day in (1, 3, 300, 400):
            self.refused(NoFact, self.diary.strike, day)
            self.refused(NoFact, self.diary.word, day)
        for many in (-1, 6, 7, HUGE, -HUGE):
            self.refused(NoDeed, self.diary.known, many)
        self.refused(NoDeed, Diary(*SIZE, TERM).undo)
        self.refused(NoDeed, Diary(*SIZE, TERM).redo)
        self.refused(NoDeed, self.diary.known(5).redo)

    def test_novein(self):
        for name in NO_NAMES + (4, 5):
            self.refused(NoVein, self.field.vein, name)
            self.refused(NoVein, self.field.joined, name)
            self.refused(NoVein, courses, self.field, name)

    def test_noclaim(self):
        for name in NO_NAMES + (2, 7):
            for door in (self.field.claim, self.field.state, self.field.years):
                self.refused(NoClaim, door, name)
            for spot in [(0, 0, 0)] + beyond(SIZE):
                self.refused(NoClaim, by_dip, self.field, name, spot)
                self.refused(NoClaim, has_ground, self.field, name, spot)

    def test_outofground(self):
        for spot in beyond(SIZE):
            for door in (columns_at, reaching, heirs, title, owner, paper):
                self.refused(OutOfGround, door, self.field, spot)
            self.refused(OutOfGround, by_dip, self.field, 4, spot)
            self.refused(OutOfGround, has_ground, self.field, 5, spot)
            self.refused(OutOfGround, judge, self.field, spot, ("open", ()))
            self.refused(OutOfGround, spells, self.diary, spot, 9)


class ByTurnsTest(unittest.TestCase):
    """Nothing is shared between objects made apart, of unlike sizes and terms."""

    def test_fields_and_diaries_of_unlike_sizes(self):
        source = random.Random(28)
        shapes = [((1, 1, 0), 1), ((3, 5, 2), 20), ((6, 2, 3), 7), ((24, 24, 12), 400), ((3, 5, 2), 20)]
        stories = [random_facts(source, size, term, 25) for size, term in shapes]
        fields = [Field(*size, term) for size, term in shapes]
        diaries = [Diary(*size, term) for size, term in shapes]
        for place in range(25):
            for one, story in zip(fields, stories):
                one.enter(*story[place])
                paper(one, (0, 0, 0))
            for one, story in zip(diaries, stories):
                one.tell(*story[24 - place])
                spells(one, (0, 0, 0), 30)
        for (size, term), story, field, diary in zip(shapes, stories, fields, diaries):
            plain = entered(size, term, story)
            self.assertEqual(state_of(field), state_of(plain))
            self.assertEqual(state_of(diary.field(plain.today())), state_of(plain))
            self.assertEqual(read_roll(written(diary)).facts(), story)
            if size != (24, 24, 12):
                self.assertEqual(told(field), told(plain))

    def test_a_diary_its_field_its_twin_and_its_roll(self):
        facts = random_facts(random.Random(3), SIZE, TERM, 40)
        diary = kept(SIZE, TERM, facts)
        last = facts[-1][0]
        twin, early, roll, field = diary.twin(), diary.known(20), read_roll(written(diary)), diary.field(last)
        states = [all_of(one) for one in (diary, twin, early, roll)]
        field.enter(last + 1, ("stake", 1, 0, 0, 6, 4))
        for one in (twin, early, roll):
            one.undo()
            one.tell(399, PAY)
        self.assertEqual(all_of(diary), states[0])
        for one in (twin, early, roll):
            one.undo()
        self.assertEqual([one.deeds() for one in (twin, early, roll)], [state[2][:-1] for state in states[1:]])
        self.assertEqual(told(diary.field(last)), told(entered(SIZE, TERM, facts, last)))


class LongDiaryTest(Asked):
    def test_over_a_hundred_deeds_taken_back_and_done_once_more(self):
        source = random.Random(19)
        facts = random_facts(source, SIZE, TERM, 130)
        diary = kept(SIZE, TERM, source.sample(facts, len(facts)))
        for day, fact in facts[::3]:
            diary.strike(day)
        for day, fact in facts[::6]:
            diary.tell(day, PAY)
        deeds, roll = diary.deeds(), written(diary)
        self.assertGreater(len(deeds), 190)
        final = state_of(diary.field(400))
        stops = {many: diary.known(many).facts() for many in range(0, len(deeds) + 1, 10)}
        for many in range(len(deeds) - 1, -1, -1):
            diary.undo()
            self.assertEqual(diary.deeds(), deeds[:many])
            self.assertEqual(diary.facts(), stops.get(many, diary.facts()))
        self.assertEqual(all_of(diary), (SIZE, TERM, [], [], deeds))
        self.refused(NoDeed, diary.undo)
        for many in range(1, len(deeds) + 1):
            diary.redo()
            self.assertEqual(diary.facts(), stops.get(many, diary.facts()))
        self.refused(NoDeed, diary.redo)
        self.assertEqual((diary.deeds(), written(diary), state_of(diary.field(400))), (deeds, roll, final))

    def test_a_diary_of_all_days(self):
        diary = Diary(*SIZE, 50)
        diary.tell(1, ("vein", (0, 0, 0), ((0, 0),)))
        diary.tell(2, ("stake", 1, 0, 0, 6, 4))
        for day in range(400, 2, -1):
            diary.tell(day, ("work", 2))
        self.assertEqual(diary.field(400).years(2), list(range(2, 401)))
        self.assertEqual(spells(diary, (6, 4, 3), 400), [(1, 1, None), (2, 400, 2)])
        told_paper = paper(diary.field(400), (6, 4, 3))
        self.assertEqual(told_paper, ("held", 2, ("ground",), tuple(range(2, 401)), ()))
        self.assertEqual(read_paper(shown_paper(told_paper)), told_paper)
        self.assertEqual(read_roll(written(diary)).facts(), diary.facts())
        diary.strike(2)
        self.assertEqual(spells(diary, (6, 4, 3), 400), [(1, 400, None)])
        self.assertEqual(tenures(diary, 2, 400), [])


if __name__ == "__main__":
    unittest.main()
