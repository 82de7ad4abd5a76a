"""Point 28: the desk, its ten lines, their answers and their refusals."""

import random
import unittest

from dipright.accounts import owes
from dipright.desk import Desk
from dipright.diary import Diary
from dipright.errors import BadFact, BadNumber, DiprightError, NoDeed
from dipright.notes import shown_paper
from dipright.papers import judge, paper
from dipright.title import title
from dipright.words import shown
from helper import HUGE, SIGNS, Asked, all_of, beyond, random_fact, random_facts, state_of

SIZE = (8, 6, 3)
TERM = 10
NO_DAYS = (0, 401, 402, 1000, HUGE)
# A day that is told late each: a vein, stakes in several states, a dig and a payment.
STORY = (
    "tell 9 give 3", "tell 6 vein 111 1,1 1,2 5,1", "tell 1 vein 000 2,1 3,1 0,5", "tell 2 stake 1 1 0 2 1", "tell 3 stake 2 0 0 7 5",
    "tell 4 stake 3 4 0 7 1", "tell 5 part 2 0 2 9", "tell 7 work 5", "tell 8 work 2", "tell 10 stake 4 4 0 4 5", "tell 11 stake 5 4 1 5 5",
    "tell 12 stake 6 1 1 4 3", "tell 13 work 11", "tell 18 work 2", "tell 19 dig 7 4 1 4 1 3 25", "tell 20 pay 7 1 30",
)
PAPER = "held 2 dip 6 0 years 2 8 18 others 3 given 9 4 fallen 15 10 unvested 10 11 ground 11 12 younger 12"
# One good line of each kind.
LINES = (
    "tell 30 work 2", "tell 31 vein 000 0,0 1,0", "strike 9", "undo", "redo", "word 9", "title 20 4 1 3", "paper 20 4 1 3",
    "judge 20 4 1 3 " + PAPER, "judge 20 4 1 3 open others", "standing 20", "owes 20 7 1",
)


def told(lines=STORY, size=SIZE, term=TERM):
    desk = Desk(*size, term)
    for line in lines:
        desk.line(line)
    return desk


class DeskCase(Asked):
    def answers(self, desk, *pairs):
        for line, answer in pairs:
            self.assertEqual(desk.line(line), answer, line)
            self.assertIs(type(desk.line("standing 1")), str)

    def stays(self, desk, *pairs):
        """These answers, and all in the diary stays as it was."""
        before = all_of(desk.now())
        for line, answer in pairs:
            self.assertEqual(desk.line(line), answer, line)
            self.assertEqual(all_of(desk.now()), before, line)


class DistrictTest(DeskCase):
    def test_both_bounds(self):
        for numbers in ((1, 1, 0, 1), (24, 24, 12, 400), (7, 5, 3, 10)):
            diary = Desk(*numbers).now()
            self.assertEqual(all_of(diary), (numbers[:3], numbers[3], [], [], []))

    def test_beyond(self):
        for numbers in ((0, 5, 3, 10), (25, 5, 3, 10), (7, 0, 3, 10), (7, 25, 3, 10), (7, 5, -1, 10), (7, 5, 13, 10), (7, 5, 3, 0),
                        (7, 5, 3, 401), (HUGE, 5, 3, 10), (7, -HUGE, 3, 10), (7, 5, HUGE, 10), (7, 5, 3, -HUGE)):
            self.refused(BadNumber, Desk, *numbers)


class TellTest(DeskCase):
    def test_each_word_of_a_fact(self):
        self.answers(
            Desk(*SIZE, TERM),
            ("tell 1 work 2", "told noclaim"), ("tell 2 stake 1 0 0 7 5", "told good"), ("tell 3 work 2", "told good"),
            ("tell 4 part 2 0 9 2", "told nocut"), ("tell 5 join 6 5 1", "told novein"), ("tell 6 vein 000 1,1", "told good"),
            ("tell 7 vein 111 1,1 2,2", "told good"), ("tell 8 join 6 7 1", "told order"), ("tell 9 join 7 6 1", "told good"),
            ("tell 10 join 7 6 2", "told joined"), ("tell 11 dig 5 0 0 1 1 1 5", "told good"), ("tell 12 dig 5 0 0 1 1 1 5", "told dug"),
            ("tell 13 sell 2 9", "told good"), ("tell 14 sell 2 9", "told ended"), ("tell 15 pay 1 2 3", "told good"),
            ("tell 16 stake 3 0 0 7 5", "told good"), ("tell 17 part 16 0 4 2", "told good"), ("tell 18 give 17", "told good"),
            ("tell 19 give 17", "told ended"), ("tell 20 sell 99 1", "told noclaim"), ("tell 21 give 1", "told noclaim"),
            ("tell 22 part 17 0 5 1", "told ended"), ("tell 23 part 22 0 5 1", "told noclaim"), ("tell 400 work 16", "told ended"),
        )

    def test_facts_told_late(self):
        desk = Desk(*SIZE, TERM)
        self.answers(
            desk, ("tell 20 work 3", "told noclaim"), ("tell 3 stake 1 0 0 7 5", "told good"), ("word 20", "ended"),
            ("tell 10 work 3", "told good"), ("word 20", "good"), ("tell 1 work 3", "told noclaim"), ("tell 12 give 3", "told good"),
            ("word 20", "ended"), ("strike 12", "struck 12"), ("word 20", "good"), ("strike 3", "struck 3"), ("word 20", "noclaim"),
            ("undo", "undone"), ("word 20", "good"),
        )
        self.assertEqual([day for day, fact in desk.now().facts()], [1, 3, 10, 20])

    def test_without_floors(self):
        self.answers(Desk(2, 2, 0, 5), ("tell 3 vein - 0,0 1,1", "told good"), ("tell 4 vein 0 0,0", "refused badfact"))

    def test_refusals(self):
        desk = told()
        for day in NO_DAYS:
            self.stays(desk, (f"tell {day} work 2", "refused badnumber"), (f"tell {day} work 0", "refused badnumber"))
        for fact in ("work 0", "work 401", "stake 1 0 0 8 5", "vein 00 1,1", "vein 005 1,1", "join 6 1 4", "pay 1 1 5", f"give {HUGE}"):
            self.stays(desk, (f"tell 30 {fact}", "refused badfact"), (f"tell 9 {fact}", "refused badfact"))
        for line in STORY:
            self.stays(desk, (line, "refused taken"))
        self.stays(desk, ("tell 9 work 2", "refused taken"))


class DeedsTest(DeskCase):
    def test_strike(self):
        desk = told(STORY[:3])
        self.answers(desk, ("strike 9", "struck 9"), ("strike 1", "struck 1"), ("tell 1 pay 1 2 3", "told good"))
        self.stays(desk, ("strike 9", "refused nofact"), ("strike 400", "refused nofact"), ("strike 0", "refused badnumber"),
                   ("strike 401", "refused badnumber"), (f"strike {HUGE}", "refused badnumber"))

    def test_undo_and_redo(self):
        desk = Desk(*SIZE, TERM)
        self.stays(desk, ("undo", "refused nodeed"), ("redo", "refused nodeed"))
        self.answers(desk, ("tell 3 stake 1 0 0 7 5", "told good"), ("strike 3", "struck 3"), ("undo", "undone"), ("word 3", "good"),
                     ("undo", "undone"))
        self.stays(desk, ("undo", "refused nodeed"), ("word 3", "refused nofact"))
        self.answers(desk, ("redo", "redone"), ("word 3", "good"), ("redo", "redone"), ("word 3", "refused nofact"))
        self.stays(desk, ("redo", "refused nodeed"))
        self.assertEqual(desk.now().deeds(), [("tell", 3, ("stake", 1, 0, 0, 7, 5)), ("strike", 3)])

    def test_a_new_deed_forgets_what_was_taken_back(self):
        desk = told(STORY[:4])
        self.answers(desk, ("undo", "undone"), ("undo", "undone"), ("strike 9", "struck 9"))
        self.stays(desk, ("redo", "refused nodeed"))
        self.answers(desk, ("undo", "undone"), ("tell 300 pay 1 2 3", "told good"))
        self.stays(desk, ("redo", "refused nodeed"))

    def test_refused_lines_forget_nothing(self):
        desk = told()
        self.answers(desk, ("undo", "undone"), ("undo", "undone"))
        self.stays(
            desk, ("tell 0 pay 1 2 3", "refused badnumber"), ("tell 30 pay 1 1 3", "refused badfact"), ("tell 9 pay 1 2 3", "refused taken"),
            ("strike 0", "refused badnumber"), ("strike 30", "refused nofact"), ("word 30", "refused nofact"), ("none", "refused badtext"),
            ("title 20 8 0 0", "refused outofground"), ("title 0 0 0 0", "refused badnumber"), ("owes 20 0 1", "refused badnumber"),
        )
        self.answers(desk, ("redo", "redone"), ("redo", "redone"), ("redo", "refused nodeed"))
        self.assertEqual(all_of(desk.now()), all_of(told().now()))

    def test_word(self):
        desk = told()
        for line in STORY:
            day = line.split(" ")[1]
            self.stays(desk, (f"word {day}", "good"))
        self.stays(desk, ("word 14", "refused nofact"), ("word 400", "refused nofact"))
        for day in NO_DAYS:
            self.stays(desk, (f"word {day}", "refused badnumber"))


class TitleTest(DeskCase):
    def test_title(self):
        self.stays(told(), ("title 20 4 1 3", "2"), ("title 1 4 1 3", "open"), ("title 3 4 1 3", "3"), ("title 9 0 0 0", "open"),
                   ("title 8 0 0 0", "3"), ("title 400 4 1 3", "open"), ("title 12 4 1 2", "4"), ("title 15 4 1 2", "11"))

    def test_paper(self):
        self.stays(told(), ("paper 20 4 1 3", PAPER), ("paper 1 4 1 3", "open others"), ("paper 8 0 0 0", "held 3 ground years 3 others"),
                   ("paper 9 0 0 0", "open others 3 given 9"), ("paper 400 0 0 0", "open others 3 given 9"))

    def test_judge(self):
        self.stays(
            told(), ("judge 20 4 1 3 " + PAPER, "good"), ("judge 19 4 1 3 " + PAPER, "good"), ("judge 21 4 1 3 " + PAPER, "bad"),
            ("judge 19 4 1 2 " + PAPER, "bad"), ("judge 20 4 1 3 open others", "bad"), ("judge 1 4 1 3 open others", "good"),
            ("judge 20 4 1 3 held 0 dip 0 0 years others", "bad"), ("judge 20 4 1 3 held 2 ground years others 7 given 7", "bad"),
            (f"judge 20 4 1 3 held {HUGE} ground years {HUGE} others", "bad"), ("judge 8 0 0 0 held 3 ground years 3 others", "good"),
            ("judge 9 0 0 0 open others 3 given 9", "good"), ("judge 9 0 0 0 open others 3 given 8", "bad"),
        )

    def test_refusals(self):
        desk = told()
        for line in ("title {}", "paper {}", "judge {} open others", "judge {} " + PAPER):
            for spot in ("8 0 0", "0 6 0", "0 0 4", "8 6 4", f"{HUGE} 0 0", f"0 {HUGE} 0", f"0 0 {HUGE}"):
                for day in (1, 20, 400):
                    self.stays(desk, (line.format(f"{day} {spot}"), "refused outofground"))
                for day in NO_DAYS:
                    self.stays(desk, (line.format(f"{day} {spot}"), "refused badnumber"))
            for day in NO_DAYS:
                self.stays(desk, (line.format(f"{day} 0 0 0"), "refused badnumber"), (line.format(f"{day} 7 5 3"), "refused badnumber"))

    def test_the_edges(self):
        self.stays(told(), ("title 3 0 0 0", "3"), ("title 3 7 5 3", "3"), ("title 3 7 0 3", "3"), ("title 3 0 5 0", "3"))
        self.stays(told((), (1, 1, 0), 1), ("title 1 0 0 0", "open"), ("title 400 0 0 0", "open"), ("title 1 0 0 1", "refused outofground"))


class StandingTest(DeskCase):
    def test_none_one_and_several(self):
        desk = told()
        self.stays(desk, ("standing 1", "none"), ("standing 2", "2"), ("standing 3", "2 3"), ("standing 5", "2 5 3"),
                   ("standing 8", "2 5 3 4"), ("standing 9", "2 5 4"), ("standing 13", "2 5 4 11 12"), ("standing 20", "2 11 12"),
                   ("standing 28", "2"), ("standing 29", "none"), ("standing 400", "none"))

    def test_the_eldest_first(self):
        desk = told(("tell 2 stake 1 4 0 7 5", "tell 3 stake 2 0 0 1 1", "tell 5 vein 000 1,1", "tell 6 vein 000 4,4"))
        self.stays(desk, ("standing 4", "none"), ("standing 5", "3"), ("standing 6", "3 2"))

    def test_refusals(self):
        desk = told()
        for day in NO_DAYS:
            self.stays(desk, (f"standing {day}", "refused badnumber"))


class OwesTest(DeskCase):
    def test_owes(self):
        desk = told()
        self.stays(desk, ("owes 18 7 1", "0"), ("owes 19 7 1", "250"), ("owes 19 1 7", "-250"), ("owes 20 7 1", "-50"), ("owes 20 1 7", "50"),
                   ("owes 400 1 7", "50"), ("owes 19 7 5", "25"), ("owes 19 5 7", "-25"), ("owes 19 5 1", "0"), ("owes 20 7 7", "0"),
                   ("owes 20 1 1", "0"), ("owes 20 40 40", "0"), ("owes 20 1 40", "0"))

    def test_refusals(self):
        desk = told()
        for who in (0, 41, 42, 400, HUGE):
            self.stays(desk, (f"owes 20 {who} 1", "refused badnumber"), (f"owes 20 1 {who}", "refused badnumber"),
                       (f"owes 20 {who} {who}", "refused badnumber"))
        for day in NO_DAYS:
            self.stays(desk, (f"owes {day} 7 1", "refused badnumber"), (f"owes {day} 0 41", "refused badnumber"))


class BadTextTest(DeskCase):
    def setUp(self):
        self.desk = told()
        self.desk.line("undo")
        self.before = all_of(self.desk.now())

    def bad(self, *lines):
        for line in lines:
            self.assertEqual(self.desk.line(line), "refused badtext", repr(line))
        self.assertEqual(all_of(self.desk.now()), self.before)

    def test_good_lines_are_good(self):
        for line in LINES:
            self.assertFalse(told().line(line).startswith("refused b"), line)

    def test_no_sign_and_other_first_words(self):
        self.bad("", " ", "  ", "\n", "0", "-", "none", "help", "district 7 5 3 10", "work 2", "vein 000 1,1", "held 5 ground years others", "told",
                 "refused", "struck 9", "undone", "spells 0 0 0 20", "heirs 20 4 1 3", "balance 20 7", "settlement 20", "facts", "deeds", "now")
        for line in LINES:
            word, blank, rest = line.partition(" ")
            for other in (word.upper(), word.capitalize(), word + "s", word[:-1], "x" + word, word + ",", word + "\n", "\n" + word, ""):
                self.bad(other + blank + rest)

    def test_words_more_or_fewer(self):
        for line in LINES:
            words = line.split(" ")
            if words[0] not in ("judge", "tell") or "years" not in line and "vein" not in line:
                for place in range(1, len(words)):
                    self.bad(" ".join(words[:place] + words[place + 1:]))
                    self.bad(" ".join(words[:place] + ["7"] + words[place:]))
                self.bad(line + " 7", line + " x", line + " " + line)
            self.bad(" ".join(words[1:]))
        self.bad("tell", "tell 9", "tell 30", "strike", "strike 9 9", "undo 1", "undo undo", "redo 1", "word", "word 9 9", "title", "title 20",
                 "title 20 4", "title 20 4 1", "title 20 4 1 3 3", "title 4 1 3", "paper 20 4 1", "paper 20 4 1 3 3", "judge 20 4 1 3",
                 "judge 20 4 1 open others", "judge 20 4 1 3 3 open others", "standing", "standing 20 20", "owes", "owes 20", "owes 20 7",
                 "owes 20 7 1 1", "tell work 2", "tell 30 30 work 2", "strike x", "undo x")

    def test_numbers_not_so_written(self):
        for line in LINES:
            words = line.split(" ")
            for place, word in enumerate(words):
                if word.isdigit() and not (words[0] == "tell" and place == 3 and words[2] == "vein"):
                    for wrong in ("0" + word, "-" + word, "+" + word, word + ".0", word + ",", "a", "1_0", "-", word + "\n", "1e3"):
                        self.bad(" ".join(words[:place] + [wrong] + words[place + 1:]))

    def test_blanks_and_line_ends(self):
        for line in LINES:
            self.bad(" " + line, line + " ", "\n" + line, line + "\n", line + "\n" + line, line + "\nundo")
            for place, sign in enumerate(line):
                if sign == " ":
                    self.bad(line[:place] + " " + line[place:], line[:place] + "\n" + line[place + 1:])

    def test_facts_that_are_refused_with_badtext(self):
        for fact in ("work", "work 2 2", "works 2", "Work 2", "work x", "vein 000", "vein", "vein 000 1", "vein 000 1,1,1", "vein x 1,1", "x", "9",
                     "tell 9 work 2", "open others", "part 2 0 2", "dig 1 0 0 0 0 0", "pay 1 2", "undo"):
            self.bad(f"tell 30 {fact}")

    def test_papers_that_are_refused_with_badtext(self):
        for handed in ("", "open", "open others 3", "open others 3 given", "open others 3 stands 3", "held 5", "held 5 ground years", "others",
                       "held 5 ground 2 years others", "held 5 dip 2 years others", "Held 5 ground years others", "closed others", "work 2",
                       "open others others", "held 5 ground years 05 others", "held -5 ground years others"):
            self.bad(f"judge 20 4 1 3 {handed}")

    def test_ahead_of_all_else(self):
        """With a number out of bounds in it, too: a day, a spot, folk, a day that is taken or free."""
        self.bad("tell 0 work", "tell 401 x", "tell 9 work", "tell 9 work 2 2", f"tell {HUGE} work x", "strike 0 0", "strike 401 x", "strike 30 x",
                 "word 0 0", "word 30 30", "title 0 9 9", "title 0 9 9 9 9", "title 401 x 0 0", "title 20 9 9 x", "paper 0 9 9", "paper 20 9 9 9 9",
                 "judge 0 9 9 9", "judge 0 9 9 9 open", "judge 401 0 0 0 x", "judge 20 9 9 9 held 5", "standing 0 0", "standing 401 x",
                 "owes 0 0", "owes 0 41 0 0", "owes 20 41 x", "undo 0", "redo 0")
        empty = Desk(*SIZE, TERM)
        for line in ("undo ", "redo ", " undo", "undo 1", "redo redo"):
            self.assertEqual(empty.line(line), "refused badtext")

    def test_lines_one_sign_away(self):
        """Each of them is answered by a text, and all but deeds leave the diary."""
        for line in LINES:
            for place in range(len(line) + 1):
                for sign in SIGNS[::7] + [" ", "\n", "0", "-"]:
                    other = line[:place] + sign + line[place:]
                    if other.split(" ")[0] not in ("tell", "strike", "undo", "redo"):
                        self.assertIs(type(self.desk.line(other)), str)
        self.assertEqual(all_of(self.desk.now()), self.before)


class NowTest(DeskCase):
    def test_the_diary(self):
        desk = told()
        desk.line("undo")
        diary = desk.now()
        self.assertIsInstance(diary, Diary)
        self.assertEqual(diary.size() + (diary.term(),), (8, 6, 3, 10))
        self.assertEqual(len(diary.deeds()), len(STORY) - 1)
        diary.redo()
        self.assertEqual(diary.facts()[-1], (20, ("pay", 7, 1, 30)))
        self.refused(NoDeed, diary.redo)

    def test_a_deed_done_to_it_changes_nothing_at_the_desk(self):
        desk = told()
        desk.line("undo")
        before = all_of(desk.now())
        for change in (lambda one: one.redo(), lambda one: one.undo(), lambda one: one.strike(2), lambda one: one.tell(300, ("work", 2))):
            change(desk.now())
            self.assertEqual(all_of(desk.now()), before)
        self.assertEqual(desk.line("redo"), "redone")

    def test_and_the_other_way_round(self):
        for line in ("redo", "undo", "strike 2", "tell 300 work 2"):
            desk = told()
            desk.line("undo")
            diary = desk.now()
            before = all_of(diary)
            desk.line(line)
            self.assertEqual(all_of(diary), before)
            self.assertNotEqual(all_of(desk.now()), before)


class DesksTest(DeskCase):
    def test_two_desks_by_turns(self):
        one, other = Desk(8, 6, 3, 10), Desk(2, 2, 0, 400)
        pairs = (
            ("tell 1 stake 1 0 0 1 1", "told good", "told good"), ("tell 2 vein 000 1,1", "told good", "refused badfact"),
            ("tell 2 vein - 1,1", "refused badfact", "told good"), ("standing 2", "1", "1"), ("standing 12", "none", "1"),
            ("tell 3 stake 2 0 0 7 5", "told good", "refused badfact"), ("title 3 7 5 3", "3", "refused outofground"), ("undo", "undone", "undone"),
            ("word 2", "good", "refused nofact"), ("redo", "redone", "redone"), ("redo", "refused nodeed", "refused nodeed"),
            ("strike 3", "struck 3", "refused nofact"), ("paper 2 1 1 0", "held 1 dip 2 0 years 1 others", "held 1 dip 2 0 years 1 others"),
        )
        for line, first, second in pairs:
            self.assertEqual(one.line(line), first, line)
            self.assertEqual(other.line(line), second, line)

    def test_desks_alike_told_apart(self):
        one, other = told(), told()
        one.line("strike 2")
        self.assertEqual((one.line("title 20 4 1 3"), other.line("title 20 4 1 3")), ("12", "2"))

    def test_random_lines_as_the_diary_answers(self):
        for seed in range(10):
            source = random.Random(seed)
            size, term = (source.randint(1, 5), source.randint(1, 5), source.randint(0, 3)), source.choice((8, 30))
            desk, diary = Desk(*size, term), Diary(*size, term)
            for day, fact in random_facts(source, size, term, 25):
                self.assertEqual(desk.line(f"tell {day} {shown(fact)}"), answer(diary, "tell", day, fact))
            for round_number in range(150):
                self.random_line(source, desk, diary, size)
            self.assertEqual(all_of(desk.now()), all_of(diary))
            self.assertEqual(state_of(desk.now().field(60)), state_of(diary.field(60)))

    def random_line(self, source, desk, diary, size):
        word = source.choice(("tell", "tell", "strike", "undo", "redo", "word", "title", "paper", "judge", "standing", "owes"))
        day = source.choice((source.randint(1, 60), source.randint(1, 60), source.randint(0, 402)))
        spot = source.choice([tuple(source.randrange(length) for length in (size[0], size[1], size[2] + 1))] * 8 + [
            one for one in beyond(size) if min(one) >= 0])
        rest = {
            "tell": (random_fact(source, size, diary.field(60).veins(), diary.field(60).claims()),), "title": spot, "paper": spot,
            "owes": (source.randint(0, 5), source.randint(0, 5)), "judge": spot + (self.random_paper(source, diary, spot, size),),
        }.get(word, ())
        numbers = () if word in ("undo", "redo") else (day,)
        texts = [str(one) for one in (word,) + numbers + rest if type(one) is not tuple]
        texts += [shown(one) if word == "tell" else shown_paper(one) for one in rest if type(one) is tuple]
        self.assertEqual(desk.line(" ".join(texts)), answer(diary, word, *numbers + rest), texts)

    def random_paper(self, source, diary, spot, size):
        if any(not 0 <= one < length for one, length in zip(spot, (size[0], size[1], size[2] + 1))):
            return ("open", ())
        return paper(diary.field(source.choice((20, 40, 60))), spot)


def deed_answer(diary, word, *rest):
    getattr(diary, word)(*rest)
    if word == "tell":
        return "told " + diary.word(rest[0])
    return f"struck {rest[0]}" if word == "strike" else word + "ne"


def answer(diary, word, *rest):
    """What the desk is to answer, told by the diary."""
    try:
        if word in ("tell", "strike", "undo", "redo"):
            return deed_answer(diary, word, *rest)
        if word == "word":
            return diary.word(*rest)
        field = diary.field(rest[0])
        return {
            "title": lambda: str(title(field, rest[1:]) or "open"),
            "paper": lambda: shown_paper(paper(field, rest[1:])),
            "judge": lambda: "good" if judge(field, rest[1:4], rest[4]) else "bad",
            "standing": lambda: " ".join(map(str, field.standing())) or "none",
            "owes": lambda: str(owes(field, *rest[1:])),
        }[word]()
    except DiprightError as refusal:
        return "refused " + type(refusal).__name__.lower()


class LongDayTest(DeskCase):
    def test_a_desk_of_over_a_hundred_deeds(self):
        desk = Desk(*SIZE, 400)
        facts = random_facts(random.Random(7), SIZE, 400, 120)
        for day, fact in facts:
            self.assertTrue(desk.line(f"tell {day} {shown(fact)}").startswith("told "))
        for day, fact in facts:
            self.assertEqual(desk.line("undo"), "undone")
        self.assertEqual(desk.line("undo"), "refused nodeed")
        for day, fact in facts:
            self.assertEqual(desk.line("redo"), "redone")
        self.assertEqual(desk.line("redo"), "refused nodeed")
        self.assertEqual(desk.now().facts(), facts)
        self.refused(BadFact, desk.now().tell, 400, ("work",))


if __name__ == "__main__":
    unittest.main()
