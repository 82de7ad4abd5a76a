"""Point 25: whole numbers and facts written and read."""

import random
import re
import unittest

from dipright.errors import BadText, DiprightError
from dipright.words import number, read_fact, shown

HUGE = 10 ** 40 - 1  # the greatest number of 40 figures
# All signs that a text may have: from the blank to ~ but the percent sign, and line ends.
SIGNS = [chr(code) for code in range(32, 127) if chr(code) != "%"] + ["\n"]
NUMBERS = (0, 1, 7, 9, 10, 23, 40, 99, 100, 400, 10 ** 6, 10 ** 39, HUGE)
# How many numbers each word asks.
COUNTS = {"join": 3, "stake": 5, "work": 1, "sell": 2, "part": 4, "give": 1, "dig": 7, "pay": 3}
FIGURES = "(0|[1-9][0-9]*)"
CELL = f"{FIGURES},{FIGURES}"
FACT = "|".join([f"{word}( {FIGURES}){{{many}}}" for word, many in COUNTS.items()] + [f"vein (-|[0-9]+)( {CELL})+"])


def number_facts():
    facts = []
    for word, many in COUNTS.items():
        facts.extend((word,) + (one,) * many for one in NUMBERS)
        facts.append((word,) + tuple(range(1, many + 1)))
        facts.append((word,) + tuple(range(many + 10, 10, -1)))
    return facts


def vein_facts():
    many_cells = tuple((x, y) for x in range(4) for y in range(4))
    return [
        ("vein", (), ((0, 0),)),
        ("vein", (), ((3, 4), (5, 4))),
        ("vein", (0,), ((1, 2),)),
        ("vein", (0, 0, 0), ((1, 2),)),
        ("vein", (0, 1, 2, 0), ((3, 4), (5, 4))),
        ("vein", (4, 3, 2, 1, 0), ((23, 23), (0, 0), (10, 9))),
        ("vein", tuple(range(10)), ((7, 7), (7, 7))),
        ("vein", (9,) * 12, many_cells),
        ("vein", (1, 0), ((HUGE, 0), (0, HUGE), (10 ** 39, HUGE))),
    ]


FACTS = number_facts() + vein_facts()


def kinds(thing):
    """The kinds of a thing and of all within it."""
    if type(thing) is tuple:
        return tuple(kinds(inner) for inner in thing)
    return type(thing).__name__


class NumberTest(unittest.TestCase):
    def test_numbers(self):
        for one in NUMBERS + tuple(range(200)):
            self.assertEqual(number(str(one)), one)
            self.assertIs(type(number(str(one))), int)

    def test_each_count_of_figures_up_to_forty(self):
        for many in range(1, 41):
            for figure in range(1, 10):
                self.assertEqual(number(str(figure) * many), figure * ((10 ** many - 1) // 9))
            self.assertEqual(number("1" + "0" * (many - 1)), 10 ** (many - 1))

    def test_noughts_ahead(self):
        self.assertEqual(number("0"), 0)
        for text in ("00", "07", "01", "000", "0123", "00000000001", "0" * 40, "0" + "9" * 39):
            self.assertIsNone(number(text), text)

    def test_no_sign(self):
        self.assertIsNone(number(""))

    def test_other_signs(self):
        for text in ("-1", "-0", "+1", "+0", " 1", "1 ", "1 2", "1.0", "1.", ".1", "1,0", "1,", "a", "1a", "a1", "1e3",
                     "0x1", "0b1", "1_0", "1_000", "one", "None", "\n", "\n1", "1\n", "1\n2", "0\n", "\n0", "-", "+", " ",
                     "(1)", "1/2", "#1"):
            self.assertIsNone(number(text), repr(text))

    def test_each_sign_at_each_place(self):
        for sign in SIGNS:
            if sign not in "0123456789":
                for text in (sign, sign * 2, sign + "0", "0" + sign, sign + "12", "1" + sign + "2", "12" + sign):
                    self.assertIsNone(number(text), repr(text))

    def test_all_texts_of_some_signs(self):
        texts = [""]
        for length in range(4):
            for text in texts:
                told = number(text)
                if re.fullmatch(FIGURES, text):
                    self.assertEqual(told, int(text))
                else:
                    self.assertIsNone(told, repr(text))
            texts = [text + sign for text in texts for sign in "019- \n,_+.a"]


class ShownTest(unittest.TestCase):
    def test_as_the_document_shows(self):
        self.assertEqual(shown(("work", 9)), "work 9")
        self.assertEqual(shown(("part", 9, 0, 3, 7)), "part 9 0 3 7")
        self.assertEqual(shown(("vein", (0, 1, 2, 0), ((3, 4), (5, 4)))), "vein 0120 3,4 5,4")

    def test_each_word(self):
        self.assertEqual(shown(("join", 7, 3, 2)), "join 7 3 2")
        self.assertEqual(shown(("stake", 11, 0, 1, 22, 23)), "stake 11 0 1 22 23")
        self.assertEqual(shown(("sell", 4, 40)), "sell 4 40")
        self.assertEqual(shown(("give", 400)), "give 400")
        self.assertEqual(shown(("dig", 1, 2, 3, 4, 5, 0, 1000000)), "dig 1 2 3 4 5 0 1000000")
        self.assertEqual(shown(("pay", 1, 2, 30)), "pay 1 2 30")

    def test_veins(self):
        self.assertEqual(shown(("vein", (), ((0, 0),))), "vein - 0,0")
        self.assertEqual(shown(("vein", (0,), ((0, 0),))), "vein 0 0,0")
        self.assertEqual(shown(("vein", (9, 8), ((23, 1), (1, 23), (0, 10)))), "vein 98 23,1 1,23 0,10")

    def test_numbers_of_forty_figures(self):
        self.assertEqual(shown(("give", HUGE)), "give " + "9" * 40)
        self.assertEqual(shown(("vein", (), ((HUGE, 0),))), "vein - " + "9" * 40 + ",0")

    def test_all_facts_are_shown_as_the_point_says(self):
        for fact in FACTS:
            text = shown(fact)
            self.assertIs(type(text), str)
            self.assertIsNotNone(re.fullmatch(FACT, text), repr(text))


class ReadFactTest(unittest.TestCase):
    def refused(self, text):
        with self.assertRaises(BadText, msg=repr(text)) as caught:
            read_fact(text)
        self.assertIs(type(caught.exception), BadText)
        self.assertIsInstance(caught.exception, DiprightError)

    def test_as_the_document_shows(self):
        self.assertEqual(read_fact("work 9"), ("work", 9))
        self.assertEqual(read_fact("part 9 0 3 7"), ("part", 9, 0, 3, 7))
        self.assertEqual(read_fact("vein 0120 3,4 5,4"), ("vein", (0, 1, 2, 0), ((3, 4), (5, 4))))

    def test_each_word(self):
        self.assertEqual(read_fact("join 7 3 2"), ("join", 7, 3, 2))
        self.assertEqual(read_fact("stake 11 0 1 22 23"), ("stake", 11, 0, 1, 22, 23))
        self.assertEqual(read_fact("sell 4 40"), ("sell", 4, 40))
        self.assertEqual(read_fact("give 400"), ("give", 400))
        self.assertEqual(read_fact("dig 1 2 3 4 5 0 1000000"), ("dig", 1, 2, 3, 4, 5, 0, 1000000))
        self.assertEqual(read_fact("pay 1 2 30"), ("pay", 1, 2, 30))
        self.assertEqual(read_fact("vein - 0,0"), ("vein", (), ((0, 0),)))

    def test_each_fact_that_is_shown_is_read_back_alike(self):
        for fact in FACTS:
            told = read_fact(shown(fact))
            self.assertEqual(told, fact)
            self.assertEqual(kinds(told), kinds(fact))

    def test_numbers_of_each_count_of_figures(self):
        for many in range(1, 41):
            for one in (10 ** (many - 1), 10 ** many - 1):
                for word, count in COUNTS.items():
                    fact = (word,) + (one,) * count
                    self.assertEqual(shown(fact), word + f" {one}" * count)
                    self.assertEqual(read_fact(shown(fact)), fact)
                fact = ("vein", (0, 9), ((one, 0), (0, one), (one, one)))
                self.assertEqual(shown(fact), f"vein 09 {one},0 0,{one} {one},{one}")
                self.assertEqual(read_fact(shown(fact)), fact)

    def test_facts_that_are_not_sound_are_read(self):
        for text, fact in (
            ("work 0", ("work", 0)),
            ("work 401", ("work", 401)),
            ("join 1 1 0", ("join", 1, 1, 0)),
            ("stake 0 9 9 1 1", ("stake", 0, 9, 9, 1, 1)),
            ("part 9 2 24 41", ("part", 9, 2, 24, 41)),
            ("pay 3 3 0", ("pay", 3, 3, 0)),
            ("vein 56789 0,0", ("vein", (5, 6, 7, 8, 9), ((0, 0),))),
            ("vein - 1,1 1,1", ("vein", (), ((1, 1), (1, 1)))),
            ("vein 0 99,100", ("vein", (0,), ((99, 100),))),
        ):
            self.assertEqual(read_fact(text), fact)

    def test_many_steps_and_many_cells(self):
        told = read_fact("vein " + "01234" * 8 + " 1,2" * 40)
        self.assertEqual(told, ("vein", (0, 1, 2, 3, 4) * 8, ((1, 2),) * 40))

    def test_no_word_of_a_fact(self):
        for text in ("", " ", "\n", "9", "9 work", "word 9", "dug 1", "tell 9", "strike 9", "works 9", "wor 9", "held 5",
                     "worksell 9 9", "work,9", "work9", "-", "vein3", "veins 0 1,1", "district 1 1 0 1", "None 9"):
            self.refused(text)

    def test_a_word_alone(self):
        for word in list(COUNTS) + ["vein"]:
            self.refused(word)
            self.refused(word + " ")

    def test_words_with_capitals(self):
        for fact in FACTS:
            word, blank, rest = shown(fact).partition(" ")
            self.refused(word.upper() + blank + rest)
            self.refused(word.capitalize() + blank + rest)
            self.refused(word[:-1] + word[-1].upper() + blank + rest)

    def test_numbers_more_or_fewer(self):
        for word, many in COUNTS.items():
            for count in range(10):
                text = word + " 1" * count
                if count == many:
                    self.assertEqual(read_fact(text), (word,) + (1,) * many)
                else:
                    self.refused(text)

    def test_numbers_not_so_written(self):
        for word, many in COUNTS.items():
            for place in range(many):
                for wrong in ("01", "00", "007", "-1", "-0", "+1", "1.0", "1,0", "a", "", "1a", "-", "1_0", "1\n", "\n1"):
                    numbers = ["1"] * many
                    numbers[place] = wrong
                    self.refused(word + " " + " ".join(numbers))

    def test_blanks(self):
        for fact in FACTS:
            text = shown(fact)
            self.refused(" " + text)
            self.refused(text + " ")
            for place, sign in enumerate(text):
                if sign == " ":
                    self.refused(text[:place] + " " + text[place:])

    def test_line_ends(self):
        for fact in FACTS:
            text = shown(fact)
            self.refused(text + "\n")
            self.refused("\n" + text)
            self.refused(text.replace(" ", "\n"))
            self.refused(text.replace(" ", "\n", 1))
            self.refused(text.replace(" ", " \n", 1))
            self.refused(text.replace(" ", "\n ", 1))
            self.refused(text + "\n" + text)

    def test_steps(self):
        for steps in ("", "a", "0a", "a0", "--", "-0", "0-", "0-1", "01 ", "0,1", ",", "0.1", "+1", "0\n1", "0\n", "_", "0_1",
                      "none", "()", "(0)", "1,2"):
            self.refused("vein " + steps + " 3,4")

    def test_steps_may_begin_with_noughts(self):
        self.assertEqual(read_fact("vein 00 1,1"), ("vein", (0, 0), ((1, 1),)))
        self.assertEqual(read_fact("vein 0012 1,1"), ("vein", (0, 0, 1, 2), ((1, 1),)))

    def test_no_cell(self):
        for text in ("vein 01", "vein -", "vein 01 ", "vein - ", "vein 3,4", "vein 3,4 5,4", "vein  3,4"):
            self.refused(text)

    def test_cells(self):
        for cell in ("3", "34", "3,4,5", "3,,4", ",3,4", "3,4,", ",", "3,", ",4", "3, 4", "3 ,4", "3 , 4", "3 4", "03,4",
                     "3,04", "00,4", "-3,4", "3,-4", "+3,4", "3,+4", "a,4", "3,a", "3;4", "3.4", "(3,4)", "3,4\n", "\n3,4",
                     "3\n,4", "3,\n4", "-", "-,-", "3,4 ", "1_0,4"):
            for text in ("vein 01 {}", "vein - {}", "vein 01 {} 5,4", "vein 01 5,4 {}", "vein 01 1,1 {} 5,4"):
                self.refused(text.format(cell))

    def test_all_texts_one_sign_away(self):
        for fact in [("work", 10), ("sell", 4, 20), ("vein", (), ((0, 1),)), ("vein", (0, 1), ((10, 2), (3, 4)))]:
            text = shown(fact)
            for place in range(len(text) + 1):
                self.compare(text[:place] + text[place + 1:])
                for sign in SIGNS:
                    self.compare(text[:place] + sign + text[place:])
                    self.compare(text[:place] + sign + text[place + 1:])

    def test_some_texts_of_fitting_parts(self):
        source = random.Random(25)
        parts = list(COUNTS) + ["vein", "0", "1", "12", "-", "3,4", "5,4", "01", "", "\n"]
        for round_number in range(4000):
            many = source.randint(1, 6)
            self.compare(" ".join([source.choice(parts[:9])] + [source.choice(parts[9:-4]) for k in range(many)]))
            self.compare(" ".join(source.choice(parts) for k in range(many)))

    def compare(self, text):
        if re.fullmatch(FACT, text):
            fact = read_fact(text)
            self.assertEqual(shown(fact), text)
            self.assertEqual(fact[0], text.split(" ")[0])
        else:
            self.refused(text)

    def test_what_is_told_is_fresh_each_time(self):
        self.assertEqual(read_fact("vein 0120 3,4 5,4"), read_fact("vein 0120 3,4 5,4"))
        self.refused("vein 0120")
        self.assertEqual(read_fact("vein 0120 3,4"), ("vein", (0, 1, 2, 0), ((3, 4),)))


if __name__ == "__main__":
    unittest.main()
