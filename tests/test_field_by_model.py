"""Points 4 and 7 to 17: fields of random facts, held against the words of the document told over once more, day by day."""

import random
import unittest

from dipright.field import Field
from dipright.reach import by_dip, has_ground, reaching
from dipright.title import heirs, holdings, open_ore, over, owner, title
from dipright.veins import columns_at, courses, ore
from helper import random_fact

MOVES = {0: (0, 0), 1: (1, 0), 2: (-1, 0), 3: (0, 1), 4: (0, -1)}


class Model:
    """A field told by sets of cells and of days, and by keys of age, slowly."""

    def __init__(self, size, term):
        self.size, self.term, self.day = size, term, 0
        self.veins, self.joins, self.claims, self.dug, self.entries = {}, {}, {}, set(), []

    def enter(self, day, fact):
        self.day = day
        word = getattr(self, "do_" + fact[0])(*fact[1:])
        for name in sorted(self.claims):
            claim = self.claims[name]
            if claim["age"] is None and not self.ended(claim) and claim["cells"] & self.outcrops():
                claim["vested"], claim["age"] = day, ((day, name),)
        return word

    def ended(self, claim):
        return claim["given"] is not None or self.day not in claim["kept"]

    def outcrops(self):
        return {cell for steps, cells in self.veins.values() for cell in cells}

    def do_vein(self, steps, cells):
        self.veins[self.day] = (steps, cells)
        return "good"

    def do_join(self, vein, other, floor):
        if vein not in self.veins or other not in self.veins:
            return "novein"
        if not other < vein:
            return "order"
        if vein in self.joins:
            return "joined"
        self.joins[vein] = (other, floor)
        return "good"

    def do_stake(self, who, left, top, right, low):
        cells = {(x, y) for x in range(left, right + 1) for y in range(top, low + 1)}
        kept = set(range(self.day, self.day + self.term + 1))
        self.claims[self.day] = {
            "owner": who, "cells": cells, "kept": kept, "years": [self.day], "vested": None, "given": None, "age": None,
        }
        return "good"

    def on_claim(self, name, deed):
        if name not in self.claims:
            return "noclaim"
        if self.ended(self.claims[name]):
            return "ended"
        return deed(self.claims[name]) or "good"

    def do_work(self, name):
        def deed(claim):
            claim["kept"].update(range(self.day, self.day + self.term + 1))
            claim["years"].append(self.day)
        return self.on_claim(name, deed)

    def do_sell(self, name, who):
        return self.on_claim(name, lambda claim: claim.update(owner=who))

    def do_give(self, name):
        return self.on_claim(name, lambda claim: claim.update(given=self.day))

    def do_part(self, name, side, line, who):
        def deed(claim):
            behind = {cell for cell in claim["cells"] if cell[side] >= line}
            if not behind or behind == claim["cells"]:
                return "nocut"
            piece = dict(claim, owner=who, cells=behind, kept=set(claim["kept"]), years=list(claim["years"]))
            # A later piece comes straight behind the whole, and so ahead of the pieces parted before.
            piece["age"] = None if claim["age"] is None else claim["age"] + ((-self.day, 0),)
            claim["cells"] = claim["cells"] - behind
            self.claims[self.day] = piece
        return self.on_claim(name, deed)

    def do_dig(self, who, mx, my, x, y, floor, worth):
        spot = (x, y, floor)
        if spot in self.dug:
            return "dug"
        self.dug.add(spot)
        ore_holders = [name for name, way in self.heirs(spot)]
        gatekeepers = [name for name in self.standing() if (mx, my) in self.claims[name]["cells"]]
        for names, tenths in ((ore_holders, 10 * worth), (gatekeepers, worth)):
            if names and self.claims[names[0]]["owner"] != who:
                self.entries.append((self.day, who, self.claims[names[0]]["owner"], tenths))
        return "good"

    def do_pay(self, giver, taker, coins):
        self.entries.append((self.day, taker, giver, 10 * coins))
        return "good"

    def state(self, name):
        claim = self.claims[name]
        if claim["given"] is not None:
            return "given"
        if self.day not in claim["kept"]:
            return "fallen"
        return "unvested" if claim["vested"] is None else "stands"

    def standing(self):
        names = [name for name in self.claims if self.state(name) == "stands"]
        return sorted(names, key=lambda name: self.claims[name]["age"])

    def claim(self, name):
        claim = self.claims[name]
        columns, rows = sorted({x for x, y in claim["cells"]}), sorted({y for x, y in claim["cells"]})
        ground = (columns[0], rows[0], columns[-1], rows[-1])
        return claim["owner"], ground, max(claim["kept"]), claim["vested"], claim["given"]

    def where(self, vein, column, floor):
        steps, cells = self.veins[vein]
        if column >= len(cells):
            return None
        if vein in self.joins and floor >= self.joins[vein][1]:
            return self.where(self.joins[vein][0], column, floor)
        x, y = cells[column]
        for step in steps[:floor]:
            x, y = x + MOVES[step][0], y + MOVES[step][1]
            if not (0 <= x < self.size[0] and 0 <= y < self.size[1]):
                return None
        return x, y

    def columns(self):
        return [(vein, column) for vein in sorted(self.veins) for column in range(len(self.veins[vein][1]))]

    def columns_at(self, spot):
        return [pair for pair in self.columns() if self.where(*pair, spot[2]) == spot[:2]]

    def by_dip(self, name, spot):
        return [pair for pair in self.columns_at(spot) if self.veins[pair[0]][1][pair[1]] in self.claims[name]["cells"]]

    def has_ground(self, name, spot):
        return spot[:2] in self.claims[name]["cells"]

    def heirs(self, spot):
        standing = self.standing()
        dip = [name for name in standing if self.by_dip(name, spot)]
        ground = [name for name in standing if self.has_ground(name, spot) and name not in dip]
        return [(name, "dip") for name in dip] + [(name, "ground") for name in ground]


def told(field):
    return (
        field.today(),
        [(name, field.vein(name), field.joined(name), courses(field, name)) for name in field.veins()],
        [(name, field.claim(name), field.state(name), field.years(name)) for name in field.claims()],
        field.standing(), field.entries(), ore(field), holdings(field), open_ore(field),
    )


class ModelTest(unittest.TestCase):
    def check_field(self, field, model):
        self.assertEqual(field.today(), model.day)
        self.assertEqual(field.veins(), sorted(model.veins))
        for vein in model.veins:
            self.assertEqual(field.vein(vein), model.veins[vein])
            self.assertEqual(field.joined(vein), model.joins.get(vein))
        self.assertEqual(field.claims(), sorted(model.claims))
        for name in model.claims:
            self.assertEqual(field.claim(name), model.claim(name), name)
            self.assertEqual(field.state(name), model.state(name), name)
            self.assertEqual(field.years(name), model.claims[name]["years"], name)
        self.assertEqual(field.standing(), model.standing())
        self.assertEqual(field.entries(), model.entries)

    def check_spot(self, field, model, spot):
        self.assertEqual(columns_at(field, spot), model.columns_at(spot))
        for name in model.claims:
            self.assertEqual(by_dip(field, name, spot), model.by_dip(name, spot))
            self.assertIs(has_ground(field, name, spot), model.has_ground(name, spot))
        near = [name for name in sorted(model.claims) if model.by_dip(name, spot) or model.has_ground(name, spot)]
        self.assertEqual(reaching(field, spot), near)
        all_heirs = model.heirs(spot)
        self.assertEqual(heirs(field, spot), all_heirs)
        first = all_heirs[0][0] if all_heirs else None
        self.assertEqual(title(field, spot), first)
        self.assertEqual(owner(field, spot), None if first is None else model.claims[first]["owner"])
        return first

    def check_spots(self, field, model):
        size = model.size
        spots = [(x, y, floor) for x in range(size[0]) for y in range(size[1]) for floor in range(size[2] + 1)]
        held = {spot: self.check_spot(field, model, spot) for spot in spots}
        known = [spot for spot in spots if model.columns_at(spot)]
        self.assertEqual(ore(field), known)
        self.assertEqual(open_ore(field), [spot for spot in known if held[spot] is None])
        counts = [(name, sum(held[spot] == name for spot in known)) for name in model.standing()]
        self.assertEqual(holdings(field), counts)
        for cell in sorted({spot[:2] for spot in spots}):
            grounds = [name for name in model.standing() if cell in model.claims[name]["cells"]]
            self.assertEqual(over(field, cell), grounds[0] if grounds else None)

    def test_fields_of_random_facts(self):
        words = set()
        for seed in range(30):
            source = random.Random(seed)
            size = (source.randint(1, 5), source.randint(1, 5), source.randint(0, 3))
            term = source.choice((3, 8, 20, 60))
            field, model, facts, twins = Field(*size, term), Model(size, term), [], []
            day = 0
            for round_number in range(60):
                day += source.choice((1, 1, 1, 2, 3))
                fact = random_fact(source, size, model.veins, model.claims)
                facts.append((day, fact))
                word = model.enter(day, fact)
                words.add((fact[0], word))
                self.assertEqual(field.enter(day, fact), word, (seed, facts))
                self.check_field(field, model)
                if round_number % 6 == 5:
                    self.check_spots(field, model)
                    twins.append((len(facts), field.twin()))
            self.check_unasked(size, term, facts, field, twins)
        # All words of point 9 have come, so that none of them went unseen.
        good = ("vein", "join", "stake", "work", "sell", "part", "give", "dig", "pay")
        idle = [("join", "novein"), ("join", "order"), ("join", "joined"), ("part", "nocut"), ("dig", "dug")]
        idle += [(word, why) for word in ("work", "sell", "part", "give") for why in ("noclaim", "ended")]
        self.assertEqual(words, {(word, "good") for word in good} | set(idle))

    def check_unasked(self, size, term, facts, field, twins):
        """A fresh field without a question between, and the twins with the facts behind them, tell the same."""
        fresh = Field(*size, term)
        for day, fact in facts:
            fresh.enter(day, fact)
        self.assertEqual(told(fresh), told(field))
        for many, twin in twins:
            for day, fact in facts[many:]:
                twin.enter(day, fact)
            self.assertEqual(told(twin), told(field))

    def test_a_field_that_only_passes_on(self):
        for seed in range(100, 108):
            source = random.Random(seed)
            size = (4, 3, 2)
            field, model = Field(*size, 12), Model(size, 12)
            for day in range(1, 25):
                fact = random_fact(source, size, model.veins, model.claims)
                self.assertEqual(field.enter(day, fact), model.enter(day, fact))
            for day in range(25, 40):
                field.pass_to(day)
                model.day = day
                self.check_field(field, model)
                if day % 5 == 0:
                    self.check_spots(field, model)


if __name__ == "__main__":
    unittest.main()
