"""Points 1, 2, 3, 5, 9, 19, 20 and 21: the diary, its refusals, its deeds taken back and done once more, and its fields."""

import random
import unittest

from dipright.diary import Diary
from dipright.errors import BadFact, BadNumber, NoDeed, NoFact, Taken
from dipright.field import Field
from helper import HUGE, Asked, all_of, entered, kept, kinds, random_fact, random_facts, state_of, titles_of, to_redo

SIZE = (7, 5, 3)
TERM = 10
ALL = (0, 0, 6, 4)
NO_DAYS = (0, -1, -2, -400, 401, 402, 1000, HUGE, -HUGE)
VEIN = ("vein", (1, 0, 3), ((1, 1), (4, 2)))
STAKE = ("stake", 1) + ALL
PAY = ("pay", 1, 2, 3)
UNSOUND = (
    ("vein", (0, 0), ((1, 1),)), ("vein", (0, 0, 5), ((1, 1),)), ("vein", (0, 0, 0), ()), ("vein", (0, 0, 0), ((7, 1),)),
    ("vein", (0, 0, 0), ((1, 1), (1, 1))), ("join", 1, 2, 0), ("join", 1, 2, 4), ("join", 0, 2, 1), ("stake", 1, 0, 0, 7, 1),
    ("stake", 1, 2, 0, 1, 1), ("stake", 41, 0, 0, 1, 1), ("work", 0), ("work", 401), ("work",), ("work", 1, 1), ("work", "1"),
    ("sell", 1, 0), ("part", 1, 2, 1, 1), ("part", 1, 0, 0, 1), ("part", 1, 0, 24, 1), ("give", (1,)), ("give", -HUGE),
    ("dig", 1, 0, 0, 0, 0, 4, 1), ("dig", 1, 0, 5, 0, 0, 0, 1), ("dig", 1, 0, 0, 0, 0, 0, 0), ("pay", 1, 1, 5),
    ("pay", 1, 2, 10 ** 6 + 1), ("pay", HUGE, 2, 5), ("vested", 1), ("tell", 1, 2), ("",),
)
SOUND = (
    VEIN, ("join", 9, 8, 1), STAKE, ("work", 1), ("sell", 1, 2), ("part", 1, 0, 3, 2), ("give", 400),
    ("dig", 1, 0, 0, 6, 4, 3, 10 ** 6), ("pay", 40, 1, 1),
)


def busy():
    """A diary with tells and strikes, of which some are taken back."""
    diary = kept(SIZE, TERM, [(9, VEIN), (3, STAKE), (20, ("work", 3)), (5, PAY)])
    diary.strike(5)
    diary.tell(5, ("sell", 3, 4))
    diary.tell(30, ("give", 3))
    diary.strike(30)
    diary.undo()
    diary.undo()
    return diary


BUSY_DEEDS = [
    ("tell", 9, VEIN), ("tell", 3, STAKE), ("tell", 20, ("work", 3)), ("tell", 5, PAY), ("strike", 5), ("tell", 5, ("sell", 3, 4)),
]
BUSY_BACK = [("tell", 30, ("give", 3)), ("strike", 30)]


class DistrictTest(Asked):
    def test_both_bounds(self):
        for numbers in ((1, 1, 0, 1), (24, 24, 12, 400), (24, 1, 0, 400), (1, 24, 12, 1), (7, 5, 3, 10)):
            diary = Diary(*numbers)
            self.assertEqual((diary.size(), diary.term()), (numbers[:3], numbers[3]))
            self.assertEqual(kinds(diary.size()), ("tuple", ("int",) * 3))
            self.assertIs(type(diary.term()), int)

    def test_just_beyond(self):
        for numbers in ((0, 5, 3, 10), (25, 5, 3, 10), (7, 0, 3, 10), (7, 25, 3, 10), (7, 5, -1, 10), (7, 5, 13, 10),
                        (7, 5, 3, 0), (7, 5, 3, 401)):
            self.refused(BadNumber, Diary, *numbers)

    def test_far_beyond_and_several_at_once(self):
        for wrong in (-1, -24, 1000, HUGE, -HUGE):
            for place in range(4):
                numbers = [7, 5, 3, 10]
                numbers[place] = wrong
                self.refused(BadNumber, Diary, *numbers)
            self.refused(BadNumber, Diary, wrong, wrong, wrong, wrong)

    def test_a_new_diary(self):
        self.assertEqual(all_of(Diary(7, 5, 3, 10)), ((7, 5, 3), 10, [], [], []))


class RefusalTest(Asked):
    def setUp(self):
        self.diaries = [Diary(*SIZE, TERM), kept(SIZE, TERM, [(3, STAKE), (5, PAY)]), busy()]

    def refused_in(self, diary, kind, call, *handed):
        before = all_of(diary)
        self.refused(kind, call, *handed)
        self.assertEqual(all_of(diary), before)

    def test_tell_no_day(self):
        for diary in self.diaries:
            for day in NO_DAYS:
                self.refused_in(diary, BadNumber, diary.tell, day, PAY)

    def test_tell_no_sound_fact(self):
        for diary in self.diaries:
            for fact in UNSOUND:
                self.refused_in(diary, BadFact, diary.tell, 100, fact)

    def test_tell_a_day_that_is_taken(self):
        for diary in self.diaries:
            for day, fact in diary.facts():
                for other in SOUND + (fact,):
                    self.refused_in(diary, Taken, diary.tell, day, other)

    def test_tell_several_refusals_at_once(self):
        for diary in self.diaries:
            for fact in UNSOUND:
                for day in NO_DAYS:
                    self.refused(BadNumber, diary.tell, day, fact)
                for day, other in diary.facts():
                    self.refused(BadFact, diary.tell, day, fact)
        self.assertEqual(all_of(self.diaries[2]), all_of(busy()))

    def test_no_day_is_taken(self):
        diary = kept(SIZE, TERM, [(day, PAY) for day in range(1, 401)])
        for day in NO_DAYS:
            self.refused_in(diary, BadNumber, diary.tell, day, PAY)
            self.refused_in(diary, BadNumber, diary.strike, day)

    def test_strike(self):
        for diary in self.diaries:
            for day in NO_DAYS:
                self.refused_in(diary, BadNumber, diary.strike, day)
            for day in (1, 2, 4, 6, 30, 100, 399, 400):
                self.refused_in(diary, NoFact, diary.strike, day)

    def test_strike_twice(self):
        diary = kept(SIZE, TERM, [(3, STAKE), (5, PAY)])
        diary.strike(3)
        self.refused_in(diary, NoFact, diary.strike, 3)

    def test_undo_and_redo(self):
        diary = Diary(*SIZE, TERM)
        self.refused_in(diary, NoDeed, diary.undo)
        self.refused_in(diary, NoDeed, diary.redo)
        diary.tell(5, PAY)
        self.refused_in(diary, NoDeed, diary.redo)
        diary.undo()
        self.refused_in(diary, NoDeed, diary.undo)
        diary.redo()
        self.refused_in(diary, NoDeed, diary.redo)

    def test_a_refused_deed_forgets_nothing(self):
        diary = busy()
        for kind, call, handed in (
            (BadNumber, diary.tell, (0, PAY)), (BadFact, diary.tell, (100, ("work",))), (Taken, diary.tell, (3, PAY)),
            (BadNumber, diary.strike, (401,)), (NoFact, diary.strike, (30,)), (NoDeed, diary.known, (7,)), (NoDeed, diary.known, (-1,)),
            (BadNumber, diary.field, (0,)), (BadNumber, diary.word, (0,)), (NoFact, diary.word, (4,)),
        ):
            self.refused(kind, call, *handed)
        self.assertEqual(all_of(diary), (SIZE, TERM, BUSY_DEEDS, busy().facts(), BUSY_BACK))
        diary.redo()
        diary.redo()
        self.assertEqual(diary.deeds(), BUSY_DEEDS + BUSY_BACK)
        self.refused(NoDeed, diary.redo)


def replayed(deeds):
    facts = {}
    for deed in deeds:
        if deed[0] == "tell":
            facts[deed[1]] = deed[2]
        else:
            facts.pop(deed[1])
    return facts


class Deeds(Asked):
    def random_deed(self, source, diary, done, back):
        days = replayed(done)
        choice = source.random()
        day = source.randint(1, 12)
        if choice < 0.35:
            deed = ("tell", day, random_fact(source, SIZE, [], []))
            self.change(diary.tell, deed, Taken if day in days else None, done, back)
        elif choice < 0.6:
            self.change(diary.strike, ("strike", day), None if day in days else NoFact, done, back)
        else:
            call, taker, giver = (diary.undo, done, back) if choice < 0.82 else (diary.redo, back, done)
            if taker:
                self.assertIsNone(call())
                giver.append(taker.pop())
            else:
                self.refused(NoDeed, call)

    def change(self, call, deed, refusal, done, back):
        if refusal is not None:
            self.refused(refusal, call, *deed[1:])
            return
        self.assertIsNone(call(*deed[1:]))
        done.append(deed)
        back.clear()


class DeedsTest(Deeds):
    def test_facts_told_in_any_order(self):
        diary = kept(SIZE, TERM, [(9, VEIN), (400, PAY), (3, STAKE), (100, ("work", 3)), (1, PAY), (10, PAY)])
        self.assertEqual(diary.facts(), [(1, PAY), (3, STAKE), (9, VEIN), (10, PAY), (100, ("work", 3)), (400, PAY)])
        self.assertEqual([deed[1] for deed in diary.deeds()], [9, 400, 3, 100, 1, 10])

    def test_each_sound_fact_is_kept_as_it_was_told(self):
        diary = Diary(*SIZE, TERM)
        for day, fact in enumerate(SOUND, start=100):
            self.assertIsNone(diary.tell(day, fact))
        self.assertEqual(diary.facts(), list(enumerate(SOUND, start=100)))
        self.assertEqual(diary.deeds(), [("tell", day, fact) for day, fact in enumerate(SOUND, start=100)])
        self.assertEqual(kinds(diary.deeds()[0]), kinds(("tell", 100, VEIN)))

    def test_a_strike_frees_the_day(self):
        diary = kept(SIZE, TERM, [(3, STAKE), (5, PAY)])
        self.assertIsNone(diary.strike(3))
        self.assertEqual(diary.facts(), [(5, PAY)])
        diary.tell(3, VEIN)
        self.assertEqual(diary.facts(), [(3, VEIN), (5, PAY)])
        self.assertEqual(diary.deeds(), [("tell", 3, STAKE), ("tell", 5, PAY), ("strike", 3), ("tell", 3, VEIN)])

    def test_undo_and_redo_of_a_tell(self):
        diary = kept(SIZE, TERM, [(3, STAKE), (5, PAY)])
        self.assertIsNone(diary.undo())
        self.assertEqual((diary.deeds(), diary.facts()), ([("tell", 3, STAKE)], [(3, STAKE)]))
        self.assertIsNone(diary.redo())
        self.assertEqual(diary.deeds(), [("tell", 3, STAKE), ("tell", 5, PAY)])
        self.assertEqual(diary.facts(), [(3, STAKE), (5, PAY)])

    def test_undo_and_redo_of_a_strike(self):
        diary = kept(SIZE, TERM, [(3, STAKE), (5, PAY)])
        diary.strike(3)
        diary.undo()
        self.assertEqual((diary.deeds(), diary.facts()), ([("tell", 3, STAKE), ("tell", 5, PAY)], [(3, STAKE), (5, PAY)]))
        diary.redo()
        self.assertEqual(diary.deeds(), [("tell", 3, STAKE), ("tell", 5, PAY), ("strike", 3)])
        self.assertEqual(diary.facts(), [(5, PAY)])

    def test_a_day_told_struck_and_told_anew(self):
        diary = kept(SIZE, TERM, [(3, STAKE)])
        diary.strike(3)
        diary.tell(3, PAY)
        diary.strike(3)
        diary.tell(3, VEIN)
        rows = [[(3, VEIN)], [], [(3, PAY)], [], [(3, STAKE)], []]
        for row in rows[:-1]:
            self.assertEqual(diary.facts(), row)
            diary.undo()
        for row in reversed(rows):
            self.assertEqual(diary.facts(), row)
            if row != rows[0]:
                diary.redo()
        self.refused(NoDeed, diary.redo)

    def test_several_in_a_row_up_to_both_ends(self):
        diary = busy()
        deeds = BUSY_DEEDS + BUSY_BACK
        facts = [diary.known(many).facts() for many in range(len(BUSY_DEEDS) + 1)]
        for many in range(len(BUSY_DEEDS) - 1, -1, -1):
            diary.undo()
            self.assertEqual((diary.deeds(), diary.facts(), to_redo(diary)), (deeds[:many], facts[many], deeds[many:]))
        self.refused(NoDeed, diary.undo)
        for many in range(1, len(deeds) + 1):
            diary.redo()
            self.assertEqual((diary.deeds(), to_redo(diary)), (deeds[:many], deeds[many:]))
        self.refused(NoDeed, diary.redo)

    def test_a_new_deed_forgets_what_was_taken_back(self):
        told, struck = busy(), busy()
        told.tell(30, PAY)
        self.refused(NoDeed, told.redo)
        self.assertEqual(told.deeds(), BUSY_DEEDS + [("tell", 30, PAY)])
        struck.strike(20)
        self.refused(NoDeed, struck.redo)
        self.assertEqual(struck.deeds(), BUSY_DEEDS + [("strike", 20)])
        for diary, deed in ((told, ("tell", 30, PAY)), (struck, ("strike", 20))):
            diary.undo()
            self.assertEqual(all_of(diary), (SIZE, TERM, BUSY_DEEDS, busy().facts(), [deed]))

    def test_the_same_deed_anew_forgets_too(self):
        diary = busy()
        diary.tell(30, ("give", 3))
        self.refused(NoDeed, diary.redo)

    def test_what_was_taken_back_does_not_take_its_day(self):
        diary = kept(SIZE, TERM, [(3, STAKE), (5, PAY)])
        diary.undo()
        self.refused(NoFact, diary.strike, 5)
        diary.tell(5, VEIN)
        self.assertEqual(diary.facts(), [(3, STAKE), (5, VEIN)])

    def test_told_lists_may_be_changed(self):
        diary = busy()
        before = all_of(diary)
        for tell in (diary.deeds, diary.facts):
            self.assertIs(type(tell()), list)
            self.assertTrue(all(type(one) is tuple for one in tell()))
            for change in (list.clear, list.reverse, list.pop, lambda one: one.append(("strike", 3)), lambda one: one.insert(0, 9)):
                change(tell())
                self.assertEqual(all_of(diary), before)
        diary.undo()
        diary.redo()
        self.assertEqual(all_of(diary), before)

    def test_random_deeds_against_a_list_of_them(self):
        for seed in range(25):
            source = random.Random(seed)
            diary, done, back = Diary(*SIZE, TERM), [], []
            for round_number in range(150):
                self.random_deed(source, diary, done, back)
                self.assertEqual(diary.deeds(), done)
                self.assertEqual(diary.facts(), sorted(replayed(done).items()))
            self.assertEqual(to_redo(diary), back[::-1])


class WordTest(Asked):
    def test_refusals(self):
        for diary in (Diary(*SIZE, TERM), busy()):
            for day in NO_DAYS:
                self.refused(BadNumber, diary.word, day)
            for day in (1, 4, 30, 400):
                self.refused(NoFact, diary.word, day)

    def test_of_good_facts_and_of_idle_ones(self):
        facts = [
            (1, ("work", 2), "noclaim"), (2, STAKE, "good"), (3, ("work", 2), "good"), (4, ("part", 2, 0, 9, 2), "nocut"),
            (5, ("join", 6, 5, 1), "novein"), (6, VEIN, "good"), (7, VEIN, "good"), (8, ("join", 6, 7, 1), "order"),
            (9, ("join", 7, 6, 1), "good"), (10, ("join", 7, 6, 2), "joined"), (11, ("dig", 5, 0, 0, 1, 1, 1, 5), "good"),
            (12, ("dig", 5, 0, 0, 1, 1, 1, 5), "dug"), (13, ("sell", 2, 9), "good"), (14, ("give", 2), "ended"), (400, PAY, "good"),
        ]
        diary = kept(SIZE, TERM, [(day, fact) for day, fact, word in reversed(facts)])
        for day, fact, word in facts:
            self.assertEqual(diary.word(day), word, day)

    def test_words_that_change_by_facts_told_late(self):
        diary = kept(SIZE, TERM, [(20, ("work", 3))])
        self.assertEqual(diary.word(20), "noclaim")
        diary.tell(3, STAKE)
        self.assertEqual(diary.word(20), "ended")
        diary.tell(10, ("work", 3))
        self.assertEqual((diary.word(20), diary.word(10)), ("good", "good"))
        diary.tell(12, ("give", 3))
        self.assertEqual((diary.word(20), diary.word(12)), ("ended", "good"))
        diary.strike(12)
        self.assertEqual(diary.word(20), "good")
        diary.strike(3)
        self.assertEqual((diary.word(20), diary.word(10)), ("noclaim", "noclaim"))
        diary.undo()
        self.assertEqual((diary.word(20), diary.word(10)), ("good", "good"))

    def test_a_dig_told_late(self):
        dig = ("dig", 5, 0, 0, 1, 1, 1, 5)
        diary = kept(SIZE, TERM, [(20, dig)])
        self.assertEqual(diary.word(20), "good")
        diary.tell(10, dig)
        self.assertEqual((diary.word(10), diary.word(20)), ("good", "dug"))
        diary.undo()
        self.assertEqual(diary.word(20), "good")

    def test_later_facts_change_no_word(self):
        diary = kept(SIZE, TERM, [(3, STAKE), (5, ("work", 3))])
        for day, fact in ((6, ("give", 3)), (7, ("work", 3)), (400, ("work", 3))):
            diary.tell(day, fact)
            self.assertEqual((diary.word(3), diary.word(5)), ("good", "good"))

    def test_asking_changes_nothing(self):
        diary = busy()
        before = all_of(diary)
        for day, fact in diary.facts():
            diary.word(day)
        for day in (1, 9, 400):
            diary.field(day)
        self.assertEqual(all_of(diary), before)

    def test_as_a_field_answers(self):
        for seed in range(10):
            source = random.Random(seed)
            facts = random_facts(source, SIZE, TERM, 50)
            field = Field(*SIZE, TERM)
            words = [(day, field.enter(day, fact)) for day, fact in facts]
            source.shuffle(facts)
            diary = kept(SIZE, TERM, facts)
            self.assertEqual([(day, diary.word(day)) for day, fact in sorted(facts)], words)


class FieldTest(Asked):
    def test_no_day(self):
        for diary in (Diary(*SIZE, TERM), busy()):
            for day in NO_DAYS:
                self.refused(BadNumber, diary.field, day)

    def test_a_diary_without_facts(self):
        for day in (1, 17, 400):
            field = Diary(*SIZE, TERM).field(day)
            self.assertEqual(state_of(field), state_of(entered(SIZE, TERM, [], day)))
            self.assertEqual(field.today(), day)
            self.assertIsInstance(field, Field)

    def test_ahead_of_all_facts_within_on_a_fact_s_day_and_behind_all(self):
        facts = [(5, VEIN), (8, STAKE), (9, ("work", 8)), (14, ("part", 8, 0, 3, 2)), (20, ("give", 8))]
        diary = kept(SIZE, TERM, facts[::-1])
        for day in (1, 4, 5, 6, 7, 8, 9, 10, 13, 14, 15, 19, 20, 21, 24, 25, 26, 399, 400):
            plain = entered(SIZE, TERM, [(told, fact) for told, fact in facts if told <= day], day)
            self.assertEqual(state_of(diary.field(day)), state_of(plain))
            self.assertEqual(diary.field(day).today(), day)

    def test_a_told_field_that_goes_on(self):
        diary = kept(SIZE, TERM, [(5, VEIN), (8, STAKE)])
        field = diary.field(10)
        before, state = all_of(diary), state_of(diary.field(10))
        self.assertEqual(field.enter(11, ("give", 8)), "good")
        field.pass_to(400)
        self.assertEqual(all_of(diary), before)
        self.assertEqual(state_of(diary.field(10)), state)
        self.assertEqual(diary.field(12).state(8), "stands")

    def test_a_told_field_stays_when_the_diary_goes_on(self):
        diary = kept(SIZE, TERM, [(5, VEIN), (8, STAKE)])
        field = diary.field(10)
        state = state_of(field)
        diary.strike(8)
        diary.tell(9, ("give", 8))
        diary.undo()
        self.assertEqual(state_of(field), state)
        self.assertEqual(field.enter(11, ("work", 8)), "good")

    def test_later_facts_change_nothing_on_earlier_days(self):
        for seed in range(6):
            source = random.Random(seed)
            facts = random_facts(source, SIZE, TERM, 40)
            diary = kept(SIZE, TERM, facts)
            last = facts[-1][0]
            day = source.randint(2, last)
            before = [(state_of(diary.field(one)), titles_of(diary.field(one))) for one in (1, day // 2 + 1, day)]
            for told, fact in facts:
                if told > day and source.random() < 0.5:
                    diary.strike(told)
            for told in range(last + 1, last + 10):
                diary.tell(told, random_fact(source, SIZE, [], []))
            self.assertEqual([(state_of(diary.field(one)), titles_of(diary.field(one))) for one in (1, day // 2 + 1, day)], before)

    def test_the_same_facts_in_another_order_or_told_anew(self):
        for seed in range(6):
            source = random.Random(seed)
            facts = random_facts(source, SIZE, TERM, 40)
            shuffled = source.sample(facts, len(facts))
            orders = [kept(SIZE, TERM, facts), kept(SIZE, TERM, facts[::-1]), kept(SIZE, TERM, shuffled)]
            anew = kept(SIZE, TERM, shuffled)
            for day, fact in facts[::3]:
                anew.strike(day)
            anew.tell(facts[0][0], PAY)
            anew.undo()
            for day, fact in facts[::3]:
                anew.tell(day, fact)
            orders.append(anew)
            for day in (1, 10, 30, facts[-1][0], 100):
                plain = entered(SIZE, TERM, [(told, fact) for told, fact in facts if told <= day], day)
                for diary in orders:
                    self.assertEqual(state_of(diary.field(day)), state_of(plain))
                    self.assertEqual(titles_of(diary.field(day)), titles_of(plain))

    def test_each_field_is_the_callers_own(self):
        diary = kept(SIZE, TERM, [(5, VEIN), (8, STAKE)])
        one, other = diary.field(10), diary.field(10)
        one.enter(11, ("sell", 8, 40))
        self.assertEqual((one.claim(8)[0], other.claim(8)[0], diary.field(11).claim(8)[0]), (40, 1, 1))


class KnownTest(Asked):
    def test_refusals(self):
        for diary, many in ((Diary(*SIZE, TERM), 0), (busy(), 6), (kept(SIZE, TERM, [(3, STAKE)]), 1)):
            before = all_of(diary)
            for wrong in (-1, -2, -many, many + 1, many + 2, HUGE, -HUGE):
                if not 0 <= wrong <= many:
                    self.refused(NoDeed, diary.known, wrong)
            self.assertEqual(all_of(diary), before)

    def test_what_is_taken_back_does_not_count(self):
        diary = kept(SIZE, TERM, [(3, STAKE), (5, PAY)])
        diary.undo()
        self.refused(NoDeed, diary.known, 2)
        self.assertEqual(diary.known(1).facts(), [(3, STAKE)])

    def test_none_some_and_all(self):
        diary = busy()
        facts = [
            [], [(9, VEIN)], [(3, STAKE), (9, VEIN)], [(3, STAKE), (9, VEIN), (20, ("work", 3))],
            [(3, STAKE), (5, PAY), (9, VEIN), (20, ("work", 3))], [(3, STAKE), (9, VEIN), (20, ("work", 3))],
            [(3, STAKE), (5, ("sell", 3, 4)), (9, VEIN), (20, ("work", 3))],
        ]
        for many, row in enumerate(facts):
            self.assertIsInstance(diary.known(many), Diary)
            self.assertEqual(all_of(diary.known(many)), (SIZE, TERM, BUSY_DEEDS[:many], row, []))
        self.assertEqual(all_of(diary), all_of(busy()))

    def test_nothing_is_taken_back_in_it(self):
        for many in range(7):
            known = busy().known(many)
            self.refused(NoDeed, known.redo)
            if many:
                known.undo()
                self.assertEqual(known.deeds(), BUSY_DEEDS[:many - 1])
                known.redo()
            self.assertEqual(known.deeds(), BUSY_DEEDS[:many])

    def test_it_goes_its_own_way(self):
        diary = busy()
        before = all_of(diary)
        known = diary.known(6)
        known.strike(3)
        known.tell(100, PAY)
        known.undo()
        known.undo()
        known.undo()
        self.assertEqual(all_of(diary), before)
        known = diary.known(6)
        state = all_of(known)
        diary.strike(3)
        diary.undo()
        diary.undo()
        diary.tell(200, PAY)
        self.assertEqual(all_of(known), state)

    def test_its_fields(self):
        diary = busy()
        self.assertEqual(diary.known(2).field(15).state(3), "fallen")
        self.assertEqual(diary.known(2).field(13).state(3), "stands")
        self.assertEqual(diary.known(5).field(5).claim(3)[0], 1)
        self.assertEqual(diary.known(6).field(5).claim(3)[0], 4)
        self.assertEqual(diary.known(0).field(5).claims(), [])


class TwinTest(Deeds):
    def test_alike_in_what_is_taken_back_too(self):
        for diary in (Diary(*SIZE, TERM), kept(SIZE, TERM, [(3, STAKE)]), busy()):
            twin = diary.twin()
            self.assertIsInstance(twin, Diary)
            self.assertEqual(all_of(twin), all_of(diary))
            self.assertEqual(state_of(twin.field(40)), state_of(diary.field(40)))
        twin = busy().twin()
        twin.redo()
        twin.redo()
        self.assertEqual(twin.deeds(), BUSY_DEEDS + BUSY_BACK)
        self.refused(NoDeed, twin.redo)

    def test_each_goes_its_own_way(self):
        for change in (lambda one: one.redo(), lambda one: one.undo(), lambda one: one.strike(9), lambda one: one.tell(50, PAY)):
            diary = busy()
            twin = diary.twin()
            change(diary)
            self.assertEqual(all_of(twin), all_of(busy()))
            changed = all_of(diary)
            other = busy()
            twin = other.twin()
            change(twin)
            self.assertEqual(all_of(other), all_of(busy()))
            self.assertEqual(all_of(twin), changed)

    def test_a_diary_its_twin_and_a_fresh_one_by_turns(self):
        for seed in range(8):
            source = random.Random(seed)
            diary = kept(SIZE, TERM, random_facts(source, SIZE, TERM, 12))
            diary.undo()
            sides = [(diary, diary.deeds(), to_redo(diary)[::-1])]
            sides.append((diary.twin(), list(sides[0][1]), list(sides[0][2])))
            sides.append((Diary(*SIZE, TERM), [], []))
            for round_number in range(90):
                side, done, back = sides[round_number % 3]
                self.random_deed(source, side, done, back)
                for other, deeds, taken_back in sides:
                    self.assertEqual(other.deeds(), deeds)
                    self.assertEqual(other.facts(), sorted(replayed(deeds).items()))
            for other, deeds, taken_back in sides:
                self.assertEqual(to_redo(other), taken_back[::-1])

    def test_diaries_of_unlike_sizes(self):
        small, great = Diary(1, 1, 0, 1), Diary(24, 24, 12, 400)
        small.tell(1, ("stake", 1, 0, 0, 0, 0))
        self.refused(BadFact, small.tell, 2, ("stake", 1, 0, 0, 1, 0))
        great.tell(2, ("stake", 1, 0, 0, 23, 23))
        self.refused(BadFact, great.tell, 3, ("vein", (), ((0, 0),)))
        small.tell(3, ("vein", (), ((0, 0),)))
        great.tell(3, ("vein", (0,) * 12, ((23, 23),)))
        self.assertEqual((small.field(3).state(1), great.field(3).state(2)), ("fallen", "stands"))
        self.assertEqual((small.facts()[0], great.facts()[0]), ((1, ("stake", 1, 0, 0, 0, 0)), (2, ("stake", 1, 0, 0, 23, 23))))


if __name__ == "__main__":
    unittest.main()
