"""Points 25 and 27: rolls written and read."""

import random
import re
import unittest

from dipright.diary import Diary
from dipright.errors import BadText, NoDeed
from dipright.facts import sound
from dipright.rolls import read_roll, written
from dipright.words import read_fact
from helper import FIGURES, HUGE, SIGNS, Asked, all_of, kept, random_fact, random_facts, state_of, titles_of

SIZE = (7, 5, 3)
TERM = 10
VEIN = ("vein", (1, 0, 3), ((1, 1), (4, 2)))
STAKE = ("stake", 1, 0, 0, 6, 4)
PAY = ("pay", 1, 2, 3)
# One fact of each of the nine words, with its text.
FACTS = (
    (VEIN, "vein 103 1,1 4,2"), (("join", 9, 8, 1), "join 9 8 1"), (STAKE, "stake 1 0 0 6 4"), (("work", 3), "work 3"),
    (("sell", 3, 40), "sell 3 40"), (("part", 3, 0, 23, 2), "part 3 0 23 2"), (("give", 400), "give 400"),
    (("dig", 1, 0, 0, 6, 4, 3, 10 ** 6), "dig 1 0 0 6 4 3 1000000"), (PAY, "pay 1 2 3"),
)
HEAD = "district 7 5 3 10"
ROLL = "\n".join([HEAD, "tell 9 vein 103 1,1 4,2", "tell 3 stake 1 0 0 6 4", "tell 20 work 3", "strike 20", "tell 20 pay 1 2 3"])
DEEDS = [("tell", 9, VEIN), ("tell", 3, STAKE), ("tell", 20, ("work", 3)), ("strike", 20), ("tell", 20, PAY)]
ROW = re.compile(f"tell {FIGURES} (?P<fact>[a-z]+ .*)|strike {FIGURES}")


def told(deeds, size=SIZE, term=TERM):
    diary = Diary(*size, term)
    for deed in deeds:
        getattr(diary, deed[0])(*deed[1:])
    return diary


def literal(text):
    """The deeds of a roll, or None where it isn't one, as point 27 says it."""
    head, *rows = text.split("\n")
    if not re.fullmatch(f"district( {FIGURES}){{4}}", head):
        return None
    wide, tall, deep, term = (int(number) for number in head.split(" ")[1:])
    if not (1 <= wide <= 24 and 1 <= tall <= 24 and 0 <= deep <= 12 and 1 <= term <= 400):
        return None
    facts, deeds = {}, []
    for row in rows:
        match = ROW.fullmatch(row)
        day = int(match.group(1) or match.group(3)) if match else 0
        if not 1 <= day <= 400:
            return None
        if row.startswith("strike"):
            if day not in facts:
                return None
            facts.pop(day)
            deeds.append(("strike", day))
            continue
        try:
            fact = read_fact(match.group("fact"))
        except BadText:
            return None
        if day in facts or not sound((wide, tall, deep), fact):
            return None
        facts[day] = fact
        deeds.append(("tell", day, fact))
    return (wide, tall, deep), term, deeds


class WrittenTest(unittest.TestCase):
    def test_a_diary_without_deeds(self):
        self.assertEqual(written(Diary(7, 5, 3, 10)), "district 7 5 3 10")
        self.assertEqual(written(Diary(1, 1, 0, 1)), "district 1 1 0 1")
        self.assertEqual(written(Diary(24, 23, 12, 400)), "district 24 23 12 400")

    def test_tells_and_strikes(self):
        self.assertEqual(written(told(DEEDS)), ROLL)

    def test_each_of_the_nine_words(self):
        diary = Diary(*SIZE, TERM)
        for day, (fact, text) in enumerate(FACTS, start=100):
            diary.tell(day, fact)
            self.assertEqual(written(diary).split("\n")[-1], f"tell {day} {text}")
        for day, (fact, text) in enumerate(FACTS, start=100):
            diary.strike(day)
            self.assertEqual(written(diary).split("\n")[-1], f"strike {day}")
        self.assertEqual(len(written(diary).split("\n")), 1 + 18)

    def test_a_vein_without_floors(self):
        self.assertEqual(written(told([("tell", 1, ("vein", (), ((0, 0),)))], (2, 2, 0))), "district 2 2 0 10\ntell 1 vein - 0,0")

    def test_in_the_order_of_deeds(self):
        self.assertEqual(written(kept(SIZE, TERM, [(40, PAY), (4, PAY), (400, PAY), (1, PAY)])).split("\n")[1:],
                         ["tell 40 pay 1 2 3", "tell 4 pay 1 2 3", "tell 400 pay 1 2 3", "tell 1 pay 1 2 3"])

    def test_what_was_taken_back_is_not_written(self):
        diary = told(DEEDS)
        rows = ROLL.split("\n")
        for many in range(len(rows), 1, -1):
            self.assertEqual(written(diary), "\n".join(rows[:many]))
            diary.undo()
        self.assertEqual(written(diary), HEAD)
        diary.redo()
        self.assertEqual(written(diary), "\n".join(rows[:2]))

    def test_no_line_end_behind_the_last_row(self):
        for seed in range(5):
            text = written(kept(SIZE, TERM, random_facts(random.Random(seed), SIZE, TERM, 30)))
            self.assertIs(type(text), str)
            self.assertFalse(text.endswith("\n") or text.startswith("\n") or "\n\n" in text)

    def test_writing_changes_nothing(self):
        diary = told(DEEDS)
        diary.undo()
        before = all_of(diary)
        self.assertEqual(written(diary), written(diary))
        self.assertEqual(all_of(diary), before)


class ReadTest(Asked):
    def bad(self, *texts):
        for text in texts:
            self.refused(BadText, read_roll, text)
            self.assertIsNone(literal(text), repr(text))

    def compare(self, text):
        expected = literal(text)
        if expected is None:
            self.refused(BadText, read_roll, text)
        else:
            diary = read_roll(text)
            self.assertEqual((diary.size(), diary.term(), diary.deeds()), expected)
            self.assertEqual(written(diary), text)

    def test_a_roll(self):
        diary = read_roll(ROLL)
        self.assertIsInstance(diary, Diary)
        self.assertEqual(all_of(diary), (SIZE, TERM, DEEDS, [(3, STAKE), (9, VEIN), (20, PAY)], []))
        self.assertEqual(all_of(read_roll(HEAD)), (SIZE, TERM, [], [], []))

    def test_redo_is_refused_and_undo_takes_the_last_deed_back(self):
        diary = read_roll(ROLL)
        self.refused(NoDeed, diary.redo)
        for many in range(len(DEEDS) - 1, -1, -1):
            diary.undo()
            self.assertEqual(diary.deeds(), DEEDS[:many])
        self.refused(NoDeed, diary.undo)
        for many in range(1, len(DEEDS) + 1):
            diary.redo()
            self.assertEqual(diary.deeds(), DEEDS[:many])

    def test_each_of_the_nine_words(self):
        for fact, text in FACTS:
            self.assertEqual(read_roll(f"{HEAD}\ntell 77 {text}").facts(), [(77, fact)])
            self.assertEqual(read_roll(f"{HEAD}\ntell 77 {text}\nstrike 77").facts(), [])
            self.assertEqual(read_roll(f"{HEAD}\ntell 77 {text}\nstrike 77\ntell 77 {text}").facts(), [(77, fact)])

    def test_what_is_written_is_read_back_alike(self):
        for seed in range(12):
            source = random.Random(seed)
            size = (source.randint(1, 24), source.randint(1, 24), source.randint(0, 12))
            term = source.randint(1, 400)
            facts = random_facts(source, size, term, 40)
            diary = kept(size, term, source.sample(facts, len(facts)))
            for day, fact in facts[::4]:
                diary.strike(day)
            for day, fact in facts[::8]:
                diary.tell(day, random_fact(source, size, [], []))
            diary.undo()
            diary.undo()
            other = read_roll(written(diary))
            self.assertEqual(all_of(other), all_of(diary)[:4] + ([],))
            for day in (1, 20, 50, 400):
                self.assertEqual(state_of(other.field(day)), state_of(diary.field(day)))
            self.assertEqual(written(other), written(diary))

    def test_the_fields_of_the_diary_read(self):
        facts = random_facts(random.Random(3), (4, 4, 2), 12, 40)
        diary = kept((4, 4, 2), 12, facts)
        other = read_roll(written(diary))
        for day in (1, 15, 30, 60):
            self.assertEqual(titles_of(other.field(day)), titles_of(diary.field(day)))

    def test_the_diary_read_goes_its_own_way(self):
        one, other = read_roll(ROLL), read_roll(ROLL)
        one.strike(3)
        self.assertEqual(all_of(other), all_of(told(DEEDS)))
        diary = told(DEEDS)
        third = read_roll(written(diary))
        third.undo()
        self.assertEqual(all_of(diary), all_of(told(DEEDS)))

    def test_no_sign_and_no_district_row(self):
        self.bad("", " ", "\n", "\n\n", "tell 9 work 3", "strike 9", "\n".join(ROLL.split("\n")[1:]), "7 5 3 10", "undo", "roll")

    def test_another_first_row(self):
        for head in ("District 7 5 3 10", "DISTRICT 7 5 3 10", "districts 7 5 3 10", "distric 7 5 3 10", "field 7 5 3 10", "diary 7 5 3 10"):
            self.bad(head, ROLL.replace(HEAD, head))

    def test_numbers_of_a_district_more_or_fewer(self):
        for numbers in ("", " 7", " 7 5", " 7 5 3", " 7 5 3 10 1", " 7 5 3 10 1 1", " 7 5 3 10 tell 9 work 3"):
            self.bad("district" + numbers, ROLL.replace(HEAD, "district" + numbers))

    def test_numbers_of_a_district_out_of_bounds(self):
        for numbers in ("0 5 3 10", "25 5 3 10", "7 0 3 10", "7 25 3 10", "7 5 13 10", "7 5 3 0", "7 5 3 401", "100 100 100 1000",
                        f"{HUGE} 5 3 10", f"7 {HUGE} 3 10", f"7 5 {HUGE} 10", f"7 5 3 {HUGE}"):
            self.bad("district " + numbers, ROLL.replace(HEAD, "district " + numbers))
        for numbers in ("1 1 0 1", "24 24 12 400"):
            self.assertEqual(written(read_roll("district " + numbers)), "district " + numbers)

    def test_numbers_of_a_district_not_so_written(self):
        for place in range(1, 5):
            for wrong in ("07", "-7", "+7", "7.0", "a", "", "7,5", "1_0", "-", "00"):
                words = HEAD.split(" ")
                words[place] = wrong
                self.bad(" ".join(words), ROLL.replace(HEAD, " ".join(words)))

    def test_each_row_out(self):
        """Behind the first tell of day 20 there is nothing to strike, and without the strike the day is taken."""
        rows = ROLL.split("\n")
        for place in range(len(rows)):
            self.compare("\n".join(rows[:place] + rows[place + 1:]))
        self.bad("\n".join(rows[:3] + rows[4:]), "\n".join(rows[:4] + rows[5:]))

    def test_rows_twice_and_exchanged(self):
        rows = ROLL.split("\n")
        for place in range(len(rows)):
            self.bad("\n".join(rows[:place] + [rows[place]] + rows[place:]))
            for other in range(place):
                turned = list(rows)
                turned[place], turned[other] = turned[other], turned[place]
                self.compare("\n".join(turned))
                if other == 0:
                    self.bad("\n".join(turned))
        self.bad("\n".join(rows[:3] + [rows[4], rows[3]] + rows[5:]), "\n".join(rows[:4] + [rows[5], rows[4]]))

    def test_a_deed_that_is_refused(self):
        self.bad(f"{HEAD}\nstrike 9", f"{HEAD}\ntell 9 pay 1 2 3\nstrike 8", f"{HEAD}\ntell 9 pay 1 2 3\nstrike 9\nstrike 9",
                 f"{HEAD}\ntell 9 pay 1 2 3\ntell 9 pay 1 2 3", f"{HEAD}\ntell 9 pay 1 2 3\ntell 9 work 3")

    def test_a_fact_that_is_not_sound(self):
        for fact in ("work 0", "work 401", "stake 1 0 0 7 4", "stake 1 3 0 2 4", "vein 10 1,1", "vein 105 1,1", "vein 103 7,1", "vein - 1,1",
                     "vein 103 1,1 1,1", "join 3 2 4", "join 3 2 0", "pay 1 1 5", "pay 1 2 0", "part 3 2 1 1", "part 3 0 24 1", "sell 3 41",
                     "give 0", "dig 1 0 0 0 0 4 1", f"work {HUGE}"):
            self.bad(f"{HEAD}\ntell 9 {fact}", f"{HEAD}\ntell 8 pay 1 2 3\ntell 9 {fact}\ntell 10 pay 1 2 3")

    def test_a_fact_that_is_none(self):
        for fact in ("", " ", "work", "work 3 3", "work -3", "work 03", "vein 103", "vein", "works 3", "Work 3", "3", "district 7 5 3 10",
                     "tell 9 work 3", "strike 9", "held 5 ground years others", "vein 103 1,1 ", " work 3", "work  3"):
            self.bad(f"{HEAD}\ntell 9 {fact}")
        self.bad(f"{HEAD}\ntell 9", f"{HEAD}\ntell", f"{HEAD}\nstrike", f"{HEAD}\ntell work 3")

    def test_a_day_that_is_none(self):
        for day in ("0", "401", "1000", str(HUGE), "-1", "09", "+9", "", "a", "9.0", "9,1"):
            self.bad(f"{HEAD}\ntell {day} pay 1 2 3", f"{HEAD}\ntell 9 pay 1 2 3\nstrike {day}")
        for day in (1, 400):
            self.assertEqual(read_roll(f"{HEAD}\ntell {day} pay 1 2 3").facts(), [(day, PAY)])

    def test_a_strike_with_more(self):
        for more in (" 9", " work 3", " ", " pay 1 2 3"):
            self.bad(f"{HEAD}\ntell 9 pay 1 2 3\nstrike 9{more}")

    def test_empty_rows_and_line_ends(self):
        rows = ROLL.split("\n")
        self.bad(ROLL + "\n", "\n" + ROLL, "\n" + ROLL + "\n", ROLL + "\n\n", HEAD + "\n", "\n" + HEAD)
        for place in range(len(rows) + 1):
            self.bad("\n".join(rows[:place] + [""] + rows[place:]), "\n".join(rows[:place] + [" "] + rows[place:]))

    def test_blanks(self):
        rows = ROLL.split("\n")
        for place, row in enumerate(rows):
            wrong = [" " + row, row + " "] + [row[:k] + " " + row[k:] for k in range(len(row)) if row[k] == " "]
            for one in wrong:
                self.bad("\n".join(rows[:place] + [one] + rows[place + 1:]))

    def test_rows_with_another_first_word(self):
        for word in ("Tell", "TELL", "told", "tells", "", "undo", "redo", "district", "word", "title", "standing", "9"):
            self.bad(f"{HEAD}\n{word} 9 pay 1 2 3")
        for row in ("undo", "redo", "standing 9", "word 9", "title 9 0 0 0", "owes 9 1 2", "paper 9 0 0 0", "judge 9 0 0 0 open others",
                    "Strike 9", "struck 9", HEAD):
            self.bad(f"{HEAD}\ntell 9 pay 1 2 3\n{row}", f"{HEAD}\n{row}", f"{row}\n{HEAD}")

    def test_all_texts_one_sign_away(self):
        text = "district 7 5 3 10\ntell 9 vein 103 1,1\ntell 10 work 3\nstrike 9"
        read = 0
        for place in range(len(text) + 1):
            for other in [text[:place] + text[place + 1:]] + [text[:place] + sign + text[end:] for sign in SIGNS for end in (place, place + 1)]:
                self.compare(other)
                read += literal(other) is not None
        self.assertGreater(read, 50)

    def test_refused_behind_a_good_one_leaves_nothing(self):
        diary = read_roll(ROLL)
        self.refused(BadText, read_roll, ROLL + "\nstrike 5")
        self.assertEqual(all_of(diary), all_of(told(DEEDS)))
        self.assertEqual(all_of(read_roll(ROLL)), all_of(told(DEEDS)))


if __name__ == "__main__":
    unittest.main()
