"""Point 24: what follows where a stake is struck out, a claim is parted, a vein is told late, and as days go by."""

import random
import unittest

from dipright.diary import Diary
from dipright.ground import inside
from dipright.title import heirs, owner, title
from dipright.veins import columns_at
from helper import kept, random_facts, spots_of, titles_of

SIZE = (7, 5, 3)
ALL = (0, 0, 6, 4)
EAST = ("vein", (1, 1, 1), ((1, 1), (4, 2)))
STRAIGHT = ("vein", (0, 0, 0), ((2, 1), (6, 4)))


def stake(who, *ground):
    return ("stake", who) + ground


def without(diary, day):
    """The diary's twin with the fact of this day struck out."""
    other = diary.twin()
    other.strike(day)
    return other


def origins(diary):
    """For each claim the stake from which it came by partings, itself where it was staked."""
    field, found = diary.field(400), {}
    facts = dict(diary.facts())
    for claim in field.claims():
        fact = facts[claim]
        found[claim] = claim if fact[0] == "stake" else found[fact[1]]
    return found


def random_diary(source):
    size = (source.randint(1, 5), source.randint(1, 5), source.randint(0, 3))
    term = source.choice((8, 20, 60))
    facts = random_facts(source, size, term, 45)
    return kept(size, term, source.sample(facts, len(facts)))


def days_of(source, diary):
    """Some days, within the facts and behind them."""
    last = diary.facts()[-1][0]
    return sorted(source.sample(range(1, last + diary.term() + 2), 8))


class StruckStakeTest(unittest.TestCase):
    def check(self, diary, day_struck, days):
        other = without(diary, day_struck)
        gone = [claim for claim, origin in origins(diary).items() if origin == day_struck]
        changed = 0
        for day in days:
            field, left = diary.field(day), other.field(day)
            self.assertFalse(set(gone) & set(left.claims()))
            self.assertEqual(left.standing(), [claim for claim in field.standing() if claim not in gone])
            for spot in spots_of(diary.size()):
                rest = [claim for claim, way in heirs(field, spot) if claim not in gone]
                self.assertEqual(title(left, spot), rest[0] if rest else None)
                if title(field, spot) not in gone:
                    self.assertEqual(title(left, spot), title(field, spot))
                changed += title(left, spot) != title(field, spot)
        return changed

    def test_with_its_pieces_and_pieces_of_pieces(self):
        diary = kept(SIZE, 50, [
            (3, EAST), (4, STRAIGHT), (5, stake(1, *ALL)), (6, stake(2, *ALL)), (9, ("part", 5, 0, 3, 3)), (11, ("part", 9, 1, 2, 4)),
            (12, stake(5, 3, 0, 6, 4)), (13, ("part", 5, 1, 2, 6)), (14, ("work", 11)), (20, ("sell", 9, 8)), (70, stake(9, *ALL)),
        ])
        self.assertEqual(origins(diary), {5: 5, 6: 6, 9: 5, 11: 5, 12: 12, 13: 5, 70: 70})
        days = (1, 5, 6, 9, 11, 12, 13, 14, 20, 55, 56, 60, 64, 65, 70, 100)
        self.assertGreater(self.check(diary, 5, days), 0)
        struck = without(diary, 5).field(20)
        self.assertEqual((struck.claims(), struck.standing()), ([6, 12], [6, 12]))
        self.assertGreater(self.check(diary, 6, days), 0)
        self.assertEqual(without(diary, 6).field(20).standing(), [5, 13, 9, 11, 12])

    def test_facts_on_what_is_gone_are_idle(self):
        diary = kept(SIZE, 50, [(3, EAST), (5, stake(1, *ALL)), (9, ("part", 5, 0, 3, 3)), (11, ("part", 9, 1, 2, 4)), (12, ("work", 11))])
        struck = without(diary, 5)
        self.assertEqual([struck.word(day) for day in (9, 11, 12)], ["noclaim"] * 3)
        struck.undo()
        self.assertEqual([struck.word(day) for day in (9, 11, 12)], ["good"] * 3)

    def test_over_whole_districts(self):
        changed = 0
        for seed in range(30):
            source = random.Random(seed)
            diary = random_diary(source)
            stakes = [day for day, fact in diary.facts() if fact[0] == "stake"]
            for day in source.sample(stakes, min(3, len(stakes))):
                changed += self.check(diary, day, days_of(source, diary))
        self.assertGreater(changed, 500)


class PartedTest(unittest.TestCase):
    def check(self, diary, day_parted, last):
        other = without(diary, day_parted)
        for day in range(day_parted, last + 1):
            field, whole = diary.field(day), other.field(day)
            for spot in spots_of(diary.size()):
                self.assertEqual(owner(field, spot), owner(whole, spot), (day, spot))

    def test_pieces_of_one_owner(self):
        facts = [(2, STRAIGHT), (3, EAST), (5, stake(1, *ALL)), (6, stake(2, *ALL)), (7, stake(3, 2, 0, 4, 4)), (8, stake(4, 1, 1, 1, 1))]
        for side, line in ((0, 1), (0, 2), (0, 4), (0, 6), (1, 1), (1, 2), (1, 4)):
            for claim, who in ((5, 1), (6, 2)):
                diary = kept(SIZE, 20, facts + [(10, ("part", claim, side, line, who))])
                self.assertEqual(diary.word(10), "good")
                self.check(diary, 10, 30)

    def test_with_facts_of_others_behind_it(self):
        diary = kept(SIZE, 20, [
            (3, EAST), (5, stake(1, *ALL)), (6, stake(2, *ALL)), (10, ("part", 5, 0, 3, 1)), (11, STRAIGHT), (12, ("give", 6)),
            (13, stake(3, *ALL)), (14, ("join", 11, 3, 2)), (15, ("dig", 4, 0, 0, 3, 3, 3, 5)), (16, ("part", 13, 1, 2, 7)),
        ])
        self.check(diary, 10, 40)

    def test_not_of_two_owners(self):
        diary = kept(SIZE, 20, [(3, EAST), (5, stake(1, *ALL)), (10, ("part", 5, 0, 3, 2))])
        field, whole = diary.field(10), without(diary, 10).field(10)
        self.assertEqual((owner(field, (6, 4, 0)), owner(whole, (6, 4, 0))), (2, 1))

    def test_over_whole_districts(self):
        found = 0
        for seed in range(120):
            diary = random_diary(random.Random(seed))
            for day, fact in diary.facts():
                if fact[0] == "part" and diary.word(day) == "good":
                    found += self.check_if_vested(diary, day, fact)
        self.assertGreater(found, 30)

    def check_if_vested(self, diary, day, fact):
        """Makes the pieces of this parting one owner's, where the whole was vested, and checks up to the next such fact."""
        whole = diary.known(len(diary.deeds()))
        whole.strike(day)
        claim = whole.field(day).claim(fact[1])
        if claim[3] is None:
            return 0
        whole.tell(day, fact[:4] + (claim[0],))
        later = [one for one, next_fact in diary.facts() if one > day and touches(next_fact, (day, fact[1]))]
        self.check(whole, day, min(later[0] - 1 if later else 400, day + 12))
        return 1


def touches(fact, claims):
    return fact[0] in ("work", "sell", "part", "give") and fact[1] in claims


class LateVeinTest(unittest.TestCase):
    def check(self, diary, vein, days):
        """Also how many spots were found to be bound to stay, on days from the vein's own on."""
        other = without(diary, vein)
        cells = dict(diary.facts())[vein][2]
        taking = [day for day, fact in diary.facts() if fact[0] == "stake" and any(inside(fact[2:], cell) for cell in cells)]
        told = origins(diary)
        told.update(origins(other))
        bound = 0
        for day in days:
            field, plain = diary.field(day), other.field(day)
            if day < vein:
                self.assertEqual(titles_of(field), titles_of(plain))
                continue
            for spot in spots_of(diary.size()):
                near = {told[claim] for claim, way in heirs(field, spot) + heirs(plain, spot)}
                there = any(name == vein for name, column in columns_at(field, spot))
                if not there and not near & set(taking):
                    self.assertEqual(title(field, spot), title(plain, spot))
                    bound += 1
        return bound

    def test_told_late(self):
        facts = [(2, STRAIGHT), (4, stake(1, 2, 1, 6, 4)), (5, stake(2, 0, 0, 1, 1)), (8, stake(3, 3, 0, 6, 4)), (9, ("part", 4, 0, 4, 5))]
        diary = kept(SIZE, 30, facts + [(6, EAST)])
        self.assertGreater(self.check(diary, 6, range(1, 45)), 100)
        ahead, behind = without(diary, 6), diary
        self.assertEqual((ahead.field(7).state(5), behind.field(7).state(5)), ("unvested", "stands"))
        self.assertEqual((title(ahead.field(7), (2, 1, 1)), title(behind.field(7), (2, 1, 1))), (4, 4))
        self.assertEqual((title(ahead.field(7), (0, 0, 3)), title(behind.field(7), (0, 0, 3))), (None, 5))

    def test_over_whole_districts(self):
        bound = 0
        for seed in range(40):
            source = random.Random(seed)
            diary = random_diary(source)
            named = [name for day, fact in diary.facts() if fact[0] == "join" for name in fact[1:3]]
            veins = [day for day, fact in diary.facts() if fact[0] == "vein" and day not in named]
            for vein in source.sample(veins, min(3, len(veins))):
                bound += self.check(diary, vein, days_of(source, diary))
        self.assertGreater(bound, 1000)


class AgeTest(unittest.TestCase):
    def check(self, diary, last):
        elder = set()
        for day in range(1, last + 1):
            row = diary.field(day).standing()
            elder |= {(one, other) for place, one in enumerate(row) for other in row[place + 1:]}
        self.assertFalse({(one, other) for one, other in elder if (other, one) in elder})
        return len(elder)

    def test_as_days_go_by(self):
        diary = kept(SIZE, 20, [
            (1, stake(1, 0, 0, 6, 2)), (2, stake(2, 2, 0, 6, 4)), (3, STRAIGHT), (4, stake(3, *ALL)), (5, ("part", 1, 0, 3, 4)),
            (6, ("part", 1, 1, 1, 4)), (7, ("work", 1)), (8, ("part", 5, 1, 1, 9)), (9, EAST), (10, ("sell", 2, 1)), (12, ("work", 5)),
        ])
        self.assertEqual(diary.field(8).standing(), [1, 6, 5, 8, 2, 4])
        self.assertGreater(self.check(diary, 40), 10)

    def test_over_whole_districts(self):
        pairs = 0
        for seed in range(40):
            diary = random_diary(random.Random(seed))
            pairs += self.check(diary, diary.facts()[-1][0] + 5)
        self.assertGreater(pairs, 500)

    def test_no_claims(self):
        self.assertEqual(self.check(Diary(*SIZE, 10), 20), 0)


if __name__ == "__main__":
    unittest.main()
