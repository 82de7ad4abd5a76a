"""Points 2 and 5: which facts are sound for a district."""

import random
import unittest

from dipright.facts import sound

HUGE = 10 ** 40 - 1  # the greatest number of 40 figures
SIZES = ((1, 1, 0), (24, 24, 12), (24, 1, 0), (1, 24, 12), (7, 5, 3), (5, 7, 3), (3, 5, 7), (2, 2, 1), (6, 6, 2))
DAY = (1, 400)
FOLK = (1, 40)
COINS = (1, 10 ** 6)
# Things that may stand in a fact but are no whole number.
NO_NUMBERS = ("", "1", "0", "x", "vein", (), (1,), (1, 1), (1, 1, 1), ((1, 1),), ((1, 1), (0, 0)), (0, (1, 1)))
# Things that may stand in a fact but are no tuple.
NO_TUPLES = (0, 1, -1, 4, HUGE, -HUGE, "", "-", "0", "000", "0120", "0,0", "(0, 0)")


def number_places(size):
    """For each word of numbers alone: the least and the greatest of each of its numbers, as point 5 tells them."""
    wide, tall, deep = size
    x, y = (0, wide - 1), (0, tall - 1)
    return {
        "join": (DAY, DAY, (1, deep)),
        "stake": (FOLK, x, y, x, y),
        "work": (DAY,),
        "sell": (DAY, FOLK),
        "part": (DAY, (0, 1), (1, 23), FOLK),
        "give": (DAY,),
        "dig": (FOLK, x, y, x, y, (0, deep), COINS),
        "pay": (FOLK, FOLK, COINS),
    }


def number_facts(size):
    """Sound facts of numbers alone, at their least, at their greatest and between."""
    facts = []
    for word, places in number_places(size).items():
        if word == "join" and size[2] == 0:
            continue
        facts.append((word,) + tuple(least for least, most in places))
        facts.append((word,) + tuple(most for least, most in places))
        facts.append((word,) + tuple((least + most) // 2 for least, most in places))
    turned = [("pay", 1, 40, 9), ("pay", 40, 1, 9), ("stake", 7, 0, 0, size[0] - 1, size[1] - 1)]
    return [fact for fact in facts if fact[0] != "pay"] + turned


def vein_facts(size):
    wide, tall, deep = size
    some = tuple((x, y) for x in range(wide) for y in range(tall))[:16]
    return [
        ("vein", (0,) * deep, ((0, 0),)),
        ("vein", (4,) * deep, ((wide - 1, tall - 1),)),
        ("vein", tuple(floor % 5 for floor in range(deep)), some),
        ("vein", tuple(4 - floor % 5 for floor in range(deep)), some[::-1]),
    ]


def sound_facts(size):
    return number_facts(size) + vein_facts(size)


def with_thing(fact, place, thing):
    return fact[:place] + (thing,) + fact[place + 1:]


class Facts(unittest.TestCase):
    def good(self, size, fact):
        self.assertIs(sound(size, fact), True, (size, fact))

    def bad(self, size, fact):
        self.assertIs(sound(size, fact), False, (size, fact))


class SoundFacts(Facts):
    def test_one_for_each_word(self):
        size = (7, 5, 4)
        self.good(size, ("vein", (0, 1, 2, 0), ((3, 4), (5, 4))))
        self.good(size, ("join", 9, 4, 2))
        self.good(size, ("stake", 3, 1, 2, 5, 4))
        self.good(size, ("work", 9))
        self.good(size, ("sell", 9, 7))
        self.good(size, ("part", 9, 0, 3, 7))
        self.good(size, ("give", 9))
        self.good(size, ("dig", 3, 6, 0, 2, 4, 1, 250))
        self.good(size, ("pay", 3, 4, 25))

    def test_in_every_district(self):
        for size in SIZES:
            for fact in sound_facts(size):
                self.good(size, fact)

    def test_whether_claims_and_veins_are_there_is_not_asked(self):
        self.good((7, 5, 4), ("join", 9, 9, 1))
        self.good((7, 5, 4), ("join", 4, 9, 1))
        self.good((7, 5, 4), ("join", 400, 400, 4))
        self.good((7, 5, 4), ("part", 400, 1, 23, 1))
        self.good((1, 1, 0), ("part", 9, 0, 23, 7))
        self.good((1, 1, 0), ("part", 9, 1, 23, 7))

    def test_a_gallery_may_begin_over_its_spot_or_elsewhere(self):
        self.good((7, 5, 4), ("dig", 3, 2, 4, 2, 4, 0, 1))
        self.good((7, 5, 4), ("dig", 3, 0, 0, 6, 4, 4, 1))

    def test_asking_twice_tells_the_same(self):
        for size in SIZES:
            for fact in sound_facts(size):
                self.good(size, fact)
                self.bad(size, fact + (1,))
                self.good(size, fact)
            self.bad(size, ("stake", 1, 0, 0, size[0], 0))
            self.bad(size, ("stake", 1, 0, 0, size[0], 0))


class Bounds(Facts):
    def check_place(self, size, fact, place, least, most):
        for value in (least, most):
            if least <= most:
                self.good(size, with_thing(fact, place, value))
        for value in (least - 1, most + 1, -1, -least - 1, -most - 1, HUGE, -HUGE, 10 ** 39, -(10 ** 39)):
            self.bad(size, with_thing(fact, place, value))

    def test_each_number_at_both_bounds_and_just_beyond(self):
        for size in SIZES:
            for fact in number_facts(size):
                if fact[0] in ("stake", "pay"):
                    continue  # their numbers bound one another: the tests below
                for index, (least, most) in enumerate(number_places(size)[fact[0]]):
                    self.check_place(size, fact, index + 1, least, most)

    def test_every_day(self):
        for day in range(-2, 410):
            for fact in (("work", day), ("give", day), ("sell", day, 1), ("part", day, 0, 1, 1), ("join", day, 1, 1)):
                self.assertIs(sound((7, 5, 3), fact), 1 <= day <= 400, fact)
            self.assertIs(sound((7, 5, 3), ("join", 1, day, 1)), 1 <= day <= 400, day)

    def test_all_folk(self):
        for who in range(-2, 50):
            facts = (
                ("stake", who, 0, 0, 0, 0), ("sell", 1, who), ("part", 1, 0, 1, who), ("dig", who, 0, 0, 0, 0, 0, 1),
                ("pay", who, 1 if who == 2 else 2, 1), ("pay", 1 if who == 2 else 2, who, 1),
            )
            for fact in facts:
                self.assertIs(sound((7, 5, 3), fact), 1 <= who <= 40, fact)

    def test_sides_and_lines(self):
        for number in range(-3, 30):
            for size in SIZES:
                self.assertIs(sound(size, ("part", 9, number, 3, 7)), number in (0, 1), number)
                for side in (0, 1):
                    self.assertIs(sound(size, ("part", 9, side, number, 7)), 1 <= number <= 23, number)

    def test_floors(self):
        for size in SIZES:
            for floor in range(-2, 15):
                self.assertIs(sound(size, ("join", 9, 4, floor)), 1 <= floor <= size[2], (size, floor))
                self.assertIs(sound(size, ("dig", 9, 0, 0, 0, 0, floor, 5)), 0 <= floor <= size[2], (size, floor))

    def test_no_join_in_a_district_without_floors(self):
        for floor in (-1, 0, 1, HUGE):
            self.bad((5, 5, 0), ("join", 9, 4, floor))

    def test_cells_of_a_dig(self):
        for size in SIZES:
            for number in range(-2, 27):
                for place, last in ((2, size[0]), (3, size[1]), (4, size[0]), (5, size[1])):
                    fact = with_thing(("dig", 9, 0, 0, 0, 0, 0, 5), place, number)
                    self.assertIs(sound(size, fact), 0 <= number < last, (size, fact))

    def test_worth_and_coins(self):
        for coins, good in ((0, False), (1, True), (2, True), (999999, True), (10 ** 6, True), (10 ** 6 + 1, False)):
            self.assertIs(sound((7, 5, 3), ("dig", 9, 0, 0, 0, 0, 0, coins)), good, coins)
            self.assertIs(sound((7, 5, 3), ("pay", 3, 4, coins)), good, coins)
        for coins in (-1, -(10 ** 6), HUGE, -HUGE):
            self.bad((7, 5, 3), ("dig", 9, 0, 0, 0, 0, 0, coins))
            self.bad((7, 5, 3), ("pay", 3, 4, coins))

    def test_stake_ends_beyond_the_district(self):
        for size in SIZES:
            wide, tall, deep = size
            whole = ("stake", 5, 0, 0, wide - 1, tall - 1)
            self.good(size, whole)
            self.bad(size, with_thing(whole, 2, -1))
            self.bad(size, with_thing(whole, 3, -1))
            self.bad(size, with_thing(whole, 4, wide))
            self.bad(size, with_thing(whole, 5, tall))
            self.bad(size, ("stake", 5, wide, 0, wide, 0))
            self.bad(size, ("stake", 5, 0, tall, 0, tall))
            self.bad(size, ("stake", 5, -1, 0, -1, 0))
            self.bad(size, ("stake", 5, 0, -1, 0, -1))
            for place in (1, 2, 3, 4, 5):
                for value in (HUGE, -HUGE, 10 ** 39, -(10 ** 39)):
                    self.bad(size, with_thing(whole, place, value))
            for who, good in ((0, False), (1, True), (40, True), (41, False), (-1, False)):
                self.assertIs(sound(size, with_thing(whole, 1, who)), good)

    def test_stake_ends_out_of_order(self):
        self.good((7, 5, 3), ("stake", 5, 2, 3, 2, 3))
        self.bad((7, 5, 3), ("stake", 5, 3, 3, 2, 3))
        self.bad((7, 5, 3), ("stake", 5, 2, 4, 2, 3))
        self.bad((7, 5, 3), ("stake", 5, 6, 4, 0, 0))
        self.bad((7, 5, 3), ("stake", 5, 6, 0, 0, 4))
        self.bad((7, 5, 3), ("stake", 5, 0, 4, 6, 0))

    def test_every_rectangle_near_a_small_district(self):
        size = (3, 2, 1)
        near = range(-1, 5)
        for rect in [(left, top, right, low) for left in near for top in near for right in near for low in near]:
            left, top, right, low = rect
            good = 0 <= left <= right < 3 and 0 <= top <= low < 2
            self.assertIs(sound(size, ("stake", 5) + rect), good, rect)

    def test_giver_and_taker(self):
        for giver in range(-1, 43):
            for taker in range(-1, 43):
                good = giver != taker and 1 <= giver <= 40 and 1 <= taker <= 40
                self.assertIs(sound((7, 5, 3), ("pay", giver, taker, 12)), good, (giver, taker))
        for far in (HUGE, -HUGE, 10 ** 39):
            self.bad((7, 5, 3), ("pay", far, 4, 12))
            self.bad((7, 5, 3), ("pay", 4, far, 12))


class Veins(Facts):
    def test_as_many_steps_as_floors(self):
        for deep in range(0, 13):
            for many in range(0, 15):
                self.assertIs(sound((4, 6, deep), ("vein", (1,) * many, ((3, 5),))), many == deep, (deep, many))

    def test_steps_from_nought_to_four(self):
        for deep in (1, 3, 12):
            for place in range(deep):
                for step in (-1, 0, 1, 2, 3, 4, 5, 6, 9, HUGE, -HUGE, 10 ** 39):
                    steps = with_thing((2,) * deep, place, step)
                    self.assertIs(sound((4, 6, deep), ("vein", steps, ((3, 5),))), 0 <= step <= 4, steps)

    def test_no_floor_and_no_step(self):
        self.good((4, 6, 0), ("vein", (), ((3, 5),)))
        self.bad((4, 6, 0), ("vein", (0,), ((3, 5),)))
        self.bad((4, 6, 0), ("vein", (), ()))

    def test_one_to_sixteen_cells(self):
        for size in ((24, 24, 2), (5, 4, 2)):
            every = [(x, y) for x in range(size[0]) for y in range(size[1])]
            for many in range(0, 21):
                fact = ("vein", (0, 4), tuple(every[:many]))
                self.assertIs(sound(size, fact), 1 <= many <= 16, (size, many))
        self.bad((24, 24, 2), ("vein", (0, 4), tuple((x, y) for x in range(20) for y in range(2))))

    def test_cells_in_any_order(self):
        self.good((4, 6, 1), ("vein", (3,), ((3, 5), (0, 0), (2, 5), (3, 0))))

    def test_no_two_cells_alike(self):
        self.bad((4, 6, 1), ("vein", (3,), ((3, 5), (3, 5))))
        sixteen = tuple((x, y) for x in range(4) for y in range(4))
        self.good((4, 6, 1), ("vein", (3,), sixteen))
        for place in range(16):
            for other in range(16):
                fact = ("vein", (3,), with_thing(sixteen, place, sixteen[other]))
                self.assertIs(sound((4, 6, 1), fact), place == other, fact)

    def test_alike_by_one_number_or_turned_about_is_not_alike(self):
        self.good((4, 6, 1), ("vein", (3,), ((1, 2), (1, 3), (2, 2), (2, 1))))

    def test_a_cell_beside_the_district(self):
        for size in SIZES:
            wide, tall, deep = size
            for place in (0, 1, 2):
                inner = tuple((x, y) for y in range(tall) for x in range(wide))[:3]
                if place >= len(inner):
                    continue
                for beside in ((wide, 0), (0, tall), (-1, 0), (0, -1), (wide, tall), (wide - 1, tall), (wide, tall - 1)):
                    self.bad(size, ("vein", (0,) * deep, with_thing(inner, place, beside)))
                for far in (HUGE, -HUGE, 10 ** 39, -(10 ** 39)):
                    self.bad(size, ("vein", (0,) * deep, with_thing(inner, place, (far, 0))))
                    self.bad(size, ("vein", (0,) * deep, with_thing(inner, place, (0, far))))

    def test_every_cell_near_the_district(self):
        for size in ((7, 5, 2), (5, 7, 2), (24, 24, 2), (1, 1, 2)):
            for x in range(-2, 27):
                for y in range(-2, 27):
                    good = 0 <= x < size[0] and 0 <= y < size[1]
                    self.assertIs(sound(size, ("vein", (1, 2), ((x, y),))), good, (size, x, y))


class Shape(Facts):
    def test_another_first_word(self):
        words = (
            "", " ", "veins", "Vein", "VEIN", " vein", "vein ", "vei", "joined", "tell", "strike", "good", "held", "open",
            "undo", "who", "stand", "give up", "work\n", "9", "-", "who~", "pays", "digs", "dug",
        )
        for size in SIZES:
            for fact in sound_facts(size):
                for word in words:
                    self.bad(size, with_thing(fact, 0, word))
        for word in words:
            self.bad((7, 5, 3), (word,))

    def test_a_word_does_not_serve_for_another_one(self):
        size = (7, 5, 3)
        for fact in sound_facts(size):
            for word, places in number_places(size).items():
                if len(places) != len(fact) - 1 or fact[0] == "vein":
                    self.bad(size, with_thing(fact, 0, word))
            if fact[0] != "vein":
                self.bad(size, with_thing(fact, 0, "vein"))

    def test_things_fewer(self):
        for size in SIZES:
            for fact in sound_facts(size):
                for many in range(1, len(fact)):
                    self.bad(size, fact[:many])

    def test_things_more(self):
        for size in SIZES:
            for fact in sound_facts(size):
                for more in (0, 1, -1, HUGE, "", "x", (), (1,), ((0, 0),)):
                    self.bad(size, fact + (more,))
                self.bad(size, fact + (1, 1))
                self.bad(size, fact + fact[1:])
                self.bad(size, fact + (1,) * (40 - len(fact)))

    def test_another_kind_in_the_place_of_a_number(self):
        for size in SIZES:
            for fact in number_facts(size):
                for place in range(1, len(fact)):
                    for thing in NO_NUMBERS:
                        self.bad(size, with_thing(fact, place, thing))

    def test_another_kind_in_the_place_of_all_numbers(self):
        for fact in number_facts((7, 5, 3)):
            for thing in NO_NUMBERS:
                self.bad((7, 5, 3), fact[:1] + (thing,) * (len(fact) - 1))

    def test_another_kind_in_the_place_of_a_tuple(self):
        for size in SIZES:
            for fact in vein_facts(size):
                for place in (1, 2):
                    for thing in NO_TUPLES:
                        self.bad(size, with_thing(fact, place, thing))
                self.bad(size, ("vein", "0" * size[2], fact[2]))
                self.bad(size, ("vein", size[2], fact[2]))
                for thing in NO_TUPLES:
                    self.bad(size, ("vein", thing, thing))

    def test_a_number_in_the_place_of_a_cell(self):
        for size in SIZES:
            steps = (0,) * size[2]
            for outcrops in ((0,), (0, 0), (0, 1), (1, 0), ((0, 0), 0), (0, (0, 0)), (-1,), (HUGE,), tuple(range(16))):
                self.bad(size, ("vein", steps, outcrops))
            self.bad(size, ("vein", steps, (0,) * 40))

    def test_a_pair_in_the_place_of_a_step(self):
        for deep in (1, 2, 3, 12):
            size = (7, 5, deep)
            for place in range(deep):
                self.bad(size, ("vein", with_thing((0,) * deep, place, (0, 0)), ((0, 0),)))
            self.bad(size, ("vein", ((0, 0),) * deep, ((0, 0),)))

    def test_steps_and_cells_turned_about(self):
        for size in SIZES:
            for fact in vein_facts(size):
                self.bad(size, ("vein", fact[2], fact[1]))

    def test_tuples_of_forty_things(self):
        self.bad((7, 5, 3), ("vein", (0,) * 40, ((0, 0),)))
        self.bad((7, 5, 3), ("vein", (0, 0, 0), ((0, 0),) * 40))
        self.bad((24, 24, 3), ("vein", (0, 0, 0), tuple((x, y) for x in range(20) for y in range(2))))
        self.bad((7, 5, 3), ("vein",) + (0,) * 39)
        self.bad((7, 5, 3), ("work",) + (1,) * 39)


def reads_sound(size, fact):
    """Point 5 once more, written out apart from the program."""
    def whole(thing):
        return type(thing) is int

    def is_cell(thing):
        return type(thing) is tuple and len(thing) == 2 and thing[0] in range(size[0]) and thing[1] in range(size[1])

    if fact[0] == "vein":
        if len(fact) != 3 or type(fact[1]) is not tuple or type(fact[2]) is not tuple:
            return False
        steps, outcrops = fact[1:]
        if len(steps) != size[2] or not all(whole(step) and step in range(5) for step in steps):
            return False
        if len(outcrops) not in range(1, 17) or not all(is_cell(thing) for thing in outcrops):
            return False
        return all(outcrops.count(thing) == 1 for thing in outcrops)
    places = number_places(size).get(fact[0])
    if places is None or len(places) != len(fact) - 1:
        return False
    if not all(whole(thing) and least <= thing <= most for thing, (least, most) in zip(fact[1:], places)):
        return False
    if fact[0] == "stake":
        return fact[2] <= fact[4] and fact[3] <= fact[5]
    return fact[0] != "pay" or fact[1] != fact[2]


class ManyFacts(Facts):
    WORDS = ("vein", "join", "stake", "work", "sell", "part", "give", "dig", "pay", "veins", "")
    NUMBERS = (0, 0, 1, 1, 1, 2, 2, 3, 3, 4, 5, 6, 7, 12, 23, 24, 40, 41, 400, 401, -1, HUGE)

    def thing(self, chance):
        kind = chance.randrange(12)
        if kind < 9:
            return chance.choice(self.NUMBERS)
        if kind == 9:
            return chance.choice(("", "1", "vein"))
        return self.things(chance, chance.randrange(0, 6))

    def things(self, chance, many):
        pick = chance.randrange(3)
        if pick == 0:
            return tuple(chance.randrange(-1, 6) for place in range(many))
        pairs = tuple((chance.randrange(0, 7), chance.randrange(0, 5)) for place in range(many))
        return pairs if pick == 1 else pairs + (chance.randrange(3),)

    def fact(self, chance, size):
        word = chance.choice(self.WORDS)
        if word == "vein":
            steps = tuple(chance.randrange(0, 5) for floor in range(size[2]))
            outcrops = tuple((chance.randrange(0, 7), chance.randrange(0, 5)) for place in range(chance.randrange(4)))
            fact = (word, steps, outcrops)
        else:
            many = len(number_places(size).get(word, (1,)))
            fact = (word,) + tuple(chance.choice(self.NUMBERS[:12]) for place in range(many))
        if chance.randrange(3) == 0:
            place = chance.randrange(1, len(fact) + 1)
            fact = fact[:place] + (self.thing(chance),) + fact[place + chance.randrange(2):]
        return fact

    def test_as_the_document_reads(self):
        chance = random.Random(5)  # the same facts in every run
        told = {True: 0, False: 0}
        for turn in range(20000):
            size = chance.choice(SIZES)
            fact = self.fact(chance, size)
            asked = reads_sound(size, fact)
            self.assertIs(sound(size, fact), asked, (size, fact))
            told[asked] += 1
        self.assertGreater(min(told.values()), 2000)


if __name__ == "__main__":
    unittest.main()
