"""Point 26: papers written and read."""

import itertools
import random
import re
import unittest

from dipright.errors import BadText
from dipright.notes import read_paper, shown_paper
from dipright.papers import paper
from helper import FIGURES, HUGE, SIGNS, Asked, entered, kinds, random_facts, spots_of

WORDS = ("given", "fallen", "unvested", "ground", "younger")
NUMBERS = (0, 1, 7, 9, 10, 23, 40, 99, 100, 400, 10 ** 6, 10 ** 39, HUGE)
OTHER = f"{FIGURES} (given|fallen|unvested|ground|younger) {FIGURES}"
PAPER = f"(held {FIGURES} (dip {FIGURES} {FIGURES}|ground) years( {FIGURES})*|open) others( {OTHER})*"
# Each text beside the paper that it writes.
WRITTEN = (
    ("open others", ("open", ())),
    ("open others 7 given 9", ("open", ((7, "given", 9),))),
    ("open others 7 given 9 8 fallen 10 9 unvested 9", ("open", ((7, "given", 9), (8, "fallen", 10), (9, "unvested", 9)))),
    ("held 5 dip 2 0 years 5 9 others 7 younger 7", ("held", 5, ("dip", 2, 0), (5, 9), ((7, "younger", 7),))),
    ("held 5 dip 2 0 years others", ("held", 5, ("dip", 2, 0), (), ())),
    ("held 5 dip 2 11 years 5 others", ("held", 5, ("dip", 2, 11), (5,), ())),
    ("held 5 ground years others", ("held", 5, ("ground",), (), ())),
    ("held 5 ground years 5 others 4 ground 4", ("held", 5, ("ground",), (5,), ((4, "ground", 4),))),
    (
        "held 40 ground years 5 16 20 others 4 ground 4 6 younger 12 400 unvested 400",
        ("held", 40, ("ground",), (5, 16, 20), ((4, "ground", 4), (6, "younger", 12), (400, "unvested", 400))),
    ),
)


def some_papers():
    ways = [("ground",), ("dip", 2, 0), ("dip", 0, 10), ("dip", HUGE, HUGE)]
    years = [(), (0,), (5, 9), (9, 5, 5), tuple(range(1, 401)), (HUGE, 10 ** 39)]
    others = [(), ((HUGE, "given", 0),), tuple((day, word, 10 * day) for day, word in enumerate(WORDS))]
    others += [((1, word, 2),) for word in WORDS]
    papers = [("held", claim, way, some, rest) for claim in (0, 7, HUGE) for way in ways for some in years for rest in others]
    return papers + [("open", rest) for rest in others]


class ShownTest(unittest.TestCase):
    def test_as_written(self):
        for text, told in WRITTEN:
            self.assertEqual(shown_paper(told), text)

    def test_the_form(self):
        for one in some_papers():
            self.assertIs(type(shown_paper(one)), str)
            self.assertIsNotNone(re.fullmatch(PAPER, shown_paper(one)), one)

    def test_papers_unlike_are_written_unlike(self):
        self.assertEqual(len({shown_paper(one) for one in some_papers()}), len(set(some_papers())))


class ReadTest(Asked):
    def bad(self, *texts):
        for text in texts:
            self.refused(BadText, read_paper, text)
            self.assertIsNone(re.fullmatch(PAPER, text), repr(text))

    def compare(self, text):
        if re.fullmatch(PAPER, text):
            self.assertEqual(shown_paper(read_paper(text)), text)
        else:
            self.refused(BadText, read_paper, text)

    def test_as_written(self):
        for text, told in WRITTEN:
            self.assertEqual(read_paper(text), told)
            self.assertEqual(kinds(read_paper(text)), kinds(told))

    def test_each_paper_that_is_shown_is_read_back_alike(self):
        for one in some_papers():
            self.assertEqual(read_paper(shown_paper(one)), one)
            self.assertEqual(kinds(read_paper(shown_paper(one))), kinds(one))

    def test_papers_told_of_random_fields(self):
        for seed in range(6):
            source = random.Random(seed)
            field = entered((4, 4, 2), 12, random_facts(source, (4, 4, 2), 12, 50))
            for spot in spots_of((4, 4, 2)):
                told = paper(field, spot)
                self.assertEqual(read_paper(shown_paper(told)), told)
                self.assertEqual(kinds(read_paper(shown_paper(told))), kinds(told))

    def test_numbers_of_each_count_of_figures(self):
        for many in range(1, 41):
            for one in (10 ** (many - 1), 10 ** many - 1):
                told = ("held", one, ("dip", one, one), (one, one), tuple((one, word, one) for word in WORDS))
                self.assertEqual(read_paper(shown_paper(told)), told)
        for one in NUMBERS:
            self.assertEqual(read_paper(f"open others {one} given {one}"), ("open", ((one, "given", one),)))
            self.assertEqual(read_paper(f"held {one} ground years {one} others"), ("held", one, ("ground",), (one,), ()))

    def test_papers_that_are_not_good_are_read(self):
        told = read_paper("held 0 dip 900 41 years 9 9 8 others 7 given 0 7 given 0 3 ground 1")
        self.assertEqual(told, ("held", 0, ("dip", 900, 41), (9, 9, 8), ((7, "given", 0), (7, "given", 0), (3, "ground", 1))))

    def test_no_sign_and_little_else(self):
        self.bad("", " ", "  ", "\n", "0", "held", "open", "others", "years", "ground", "dip", "held 5", "held others", "open years")

    def test_another_first_word(self):
        for text, told in WRITTEN:
            rest = text.split(" ", 1)[1]
            for word in ("", "hold", "Held", "HELD", "Open", "opened", "closed", "dip", "ground", "years", "others", "5", "given", "-"):
                self.bad(word + " " + rest)
            self.bad(rest)
        self.bad("open 5 ground years 5 others", "held others", "open ground years others", "open years others", "held years others")

    def test_each_word_out_twice_exchanged_or_put_in(self):
        for text, told in WRITTEN:
            words = text.split(" ")
            for place in range(len(words) + 1):
                self.compare(" ".join(words[:place] + words[place + 1:]))
                self.compare(" ".join(words[:place] + words[place:place + 1] + words[place:]))
                for other in range(place, len(words)):
                    turned = list(words)
                    if place < len(words):
                        turned[place], turned[other] = turned[other], turned[place]
                        self.compare(" ".join(turned))
                for word in WORDS + ("held", "open", "dip", "years", "others", "3", "", "-1", "tell"):
                    self.compare(" ".join(words[:place] + [word] + words[place:]))
                    self.compare(" ".join(words[:place] + [word] + words[place + 1:]))

    def test_a_named_word_out_or_twice(self):
        self.bad("held 5 dip 2 0 5 9 others 7 younger 7", "held 5 dip 2 0 years 5 9 7 younger 7", "held 5 2 0 years 5 9 others 7 younger 7",
                 "5 dip 2 0 years 5 9 others 7 younger 7", "held dip 2 0 years 5 9 others 7 younger 7", "held 5 years 5 9 others",
                 "held held 5 dip 2 0 years 5 others", "held 5 5 dip 2 0 years 5 others", "held 5 dip dip 2 0 years 5 others",
                 "held 5 dip 2 0 years years 5 others", "held 5 dip 2 0 years 5 others others", "open open others",
                 "open others others", "held 5 ground ground years 5 others", "held 5 ground years 5 others 7 younger younger 7")

    def test_words_exchanged(self):
        self.bad("held 5 dip 2 0 others 7 younger 7 years 5 9", "held dip 2 0 5 years 5 9 others", "others open", "5 held ground years others",
                 "held 5 years 5 9 ground others", "others 7 younger 7 held 5 ground years 5", "open others younger 7 7",
                 "open others 7 7 younger", "held 5 dip 2 years 0 others", "held 5 dip years 2 0 others")

    def test_numbers_not_so_written(self):
        for text, told in WRITTEN:
            words = text.split(" ")
            for place, word in enumerate(words):
                if word.isdigit():
                    for wrong in ("0" + word, "00", "-" + word, "-0", "+" + word, word + ".0", word + ",0", "a", "", "1a", "-", "1_0", "1e3"):
                        self.bad(" ".join(words[:place] + [wrong] + words[place + 1:]))

    def test_blanks(self):
        for text, told in WRITTEN:
            self.bad(" " + text, text + " ", text.replace(" ", "", 1), text.replace(" ", ""))
            for place, sign in enumerate(text):
                if sign == " ":
                    self.bad(text[:place] + " " + text[place:])

    def test_line_ends(self):
        for text, told in WRITTEN:
            self.bad("\n" + text, text + "\n", text + "\n" + text, text + "\n ", text + " \n")
            for place, sign in enumerate(text):
                if sign == " ":
                    self.bad(text[:place] + "\n" + text[place + 1:], text[:place] + " \n" + text[place + 1:],
                             text[:place] + "\n " + text[place + 1:])

    def test_others_with_one_thing_too_few_or_too_many(self):
        for head in ("open others", "open others 3 given 4", "held 5 ground years 5 others", "held 5 dip 2 0 years others 3 given 4"):
            for rest in ("7", "younger", "7 younger", "younger 7", "7 7", "7 younger 7 7", "7 7 younger 7", "7 younger 7 younger",
                         "7 younger younger 7", "7 younger 7 8", "7 younger 7 8 younger", "younger 7 7", "7 7 younger", "7 8 9"):
                self.bad(head + " " + rest)

    def test_words_in_others_that_are_none_of_the_five(self):
        for word in ("stands", "elder", "dip", "held", "open", "years", "others", "", "give", "fall", "unveste", "grounds", "young",
                     "7", "none", "-", "given,", "given\n"):
            self.bad(f"open others 7 {word} 7", f"held 5 ground years 5 others 7 {word} 7", f"open others 3 given 4 7 {word} 7")

    def test_capitals(self):
        for text, told in WRITTEN:
            words = text.split(" ")
            for place, word in enumerate(words):
                if not word.isdigit():
                    for other in (word.upper(), word.capitalize(), word[:-1] + word[-1].upper()):
                        self.bad(" ".join(words[:place] + [other] + words[place + 1:]))

    def test_ground_with_numbers_and_dip_with_more_or_fewer_than_two(self):
        for way in ("ground 2", "ground 2 0", "ground 0", "dip", "dip 2", "dip 2 0 1", "dip 2 0 1 3", "dip ground", "ground dip 2 0",
                    "dip 2 0 ground", "dip 2 ground", "2 0", "", "open", "dip a 0", "dip 2 a", "dip 2,0", "dip 2 -1"):
            for years in ("", " 5", " 5 9"):
                self.bad(f"held 5 {way} years{years} others", f"held 5 {way} years{years} others 7 younger 7")

    def test_open_with_years_or_a_claim(self):
        self.bad("open years others", "open years 5 others", "open 5 others", "open 5 years 5 others", "open ground others", "open dip 2 0 others")

    def test_all_texts_one_sign_away(self):
        for text in ("open others 7 given 9", "held 5 dip 2 10 years 5 others", "held 5 ground years others 7 younger 7"):
            for place in range(len(text) + 1):
                self.compare(text[:place] + text[place + 1:])
                for sign in SIGNS:
                    self.compare(text[:place] + sign + text[place:])
                    self.compare(text[:place] + sign + text[place + 1:])

    def test_all_short_texts_of_fitting_words(self):
        words = ("held", "open", "dip", "ground", "years", "others", "given", "0", "12", "01", "")
        for many in range(1, 5):
            for some in itertools.product(words, repeat=many):
                self.compare(" ".join(some))

    def test_some_longer_texts_of_fitting_words(self):
        source = random.Random(26)
        good = 0
        for round_number in range(6000):
            way = source.choice((["ground"], ["dip", "2", "0"], ["dip", "2"], ["dip", "2", "0", "0"]))
            years = ["years"] * source.choice((1, 1, 1, 1, 0, 2)) + source.choices(("5", "9", "10"), k=source.randint(0, 3))
            rest = source.choices((["7", "given", "9"], ["8", "ground", "8"], ["younger"], ["6"]), (8, 8, 1, 1), k=source.randint(0, 3))
            text = " ".join(["held", "5"] + way + years + ["others"] + [word for some in rest for word in some])
            self.compare(text)
            good += re.fullmatch(PAPER, text) is not None
        self.assertGreater(good, 500)

    def test_what_is_told_is_fresh_each_time(self):
        text, told = WRITTEN[3]
        self.assertEqual(read_paper(text), told)
        self.refused(BadText, read_paper, text + " 8")
        self.assertEqual(read_paper(text), told)
        self.assertEqual(read_paper("open others"), ("open", ()))


if __name__ == "__main__":
    unittest.main()
