"""The field: a district with its facts up to a day."""

from dipright.claims import Claims
from dipright.errors import BadFact, BadNumber, Late, NoVein
from dipright.facts import DAYS, fits, sound
from dipright.title import over, owner

LENGTHS = (1, 24)
DEPTHS = (0, 12)
TERMS = (1, 400)
# Accounts are in tenths of a coin.
COIN = 10


def check_district(wide, tall, deep, term):
    if not (fits(wide, LENGTHS) and fits(tall, LENGTHS) and fits(deep, DEPTHS) and fits(term, TERMS)):
        raise BadNumber("not the numbers of a district")


def check_day(day):
    if not fits(day, DAYS):
        raise BadNumber("not a day")


class Field:
    def __init__(self, wide, tall, deep, term):
        check_district(wide, tall, deep, term)
        self.extent = (wide, tall, deep)
        self.year = term
        self.day = 0
        self.found = {}
        self.joints = {}
        self.staked = Claims(term)
        self.dug = {}
        self.debts = []

    def enter(self, day, fact):
        check_day(day)
        if not sound(self.extent, fact):
            raise BadFact("not sound for this district")
        if day <= self.day:
            raise Late("the field's day isn't earlier")
        self.day = day
        return self.answer(fact)

    def answer(self, fact):
        if fact[0] == "vein":
            return self.enter_vein(fact)
        if fact[0] == "join":
            return self.enter_join(fact)
        if fact[0] == "stake":
            return self.enter_stake(fact)
        if fact[0] == "dig":
            return self.enter_dig(fact)
        if fact[0] == "pay":
            return self.enter_pay(fact)
        return self.staked.change(self.day, fact)

    def enter_vein(self, fact):
        self.found[self.day] = (fact[1], fact[2])
        self.staked.vest_all(self.day, fact[2])
        return "good"

    def enter_join(self, fact):
        vein = fact[1]
        other = fact[2]
        if vein not in self.found or other not in self.found:
            return "novein"
        if other >= vein:
            return "order"
        if vein in self.joints:
            return "joined"
        self.joints[vein] = (other, fact[3])
        return "good"

    def enter_stake(self, fact):
        outcrops = []
        for vein in self.found:
            outcrops.extend(self.found[vein][1])
        self.staked.stake(self.day, fact[1], fact[2:6], outcrops)
        return "good"

    def enter_dig(self, fact):
        who = fact[1]
        spot = fact[4:7]
        worth = fact[7]
        if spot in self.dug:
            return "dug"
        self.dug[spot] = True
        self.owe(who, owner(self, spot), COIN * worth)
        self.owe(who, self.gatekeeper((fact[2], fact[3])), worth)
        return "good"

    def enter_pay(self, fact):
        self.owe(fact[2], fact[1], COIN * fact[3])
        return "good"

    def gatekeeper(self, mouth):
        claim = over(self, mouth)
        return None if claim is None else self.claim(claim)[0]

    def owe(self, debtor, creditor, tenths):
        if creditor is not None and creditor != debtor:
            self.debts.append((self.day, debtor, creditor, tenths))

    def pass_to(self, day):
        check_day(day)
        if day < self.day:
            raise Late("the field's day is later")
        self.day = day

    def today(self):
        return self.day

    def size(self):
        return self.extent

    def term(self):
        return self.year

    def veins(self):
        return list(self.found)

    def claims(self):
        return self.staked.names()

    def vein(self, name):
        if name not in self.found:
            raise NoVein("no vein is known by that day")
        return self.found[name]

    def joined(self, name):
        if name not in self.found:
            raise NoVein("no vein is known by that day")
        return self.joints.get(name)

    def claim(self, name):
        claim = self.staked.named(name)
        return (claim.owner, claim.ground, claim.last, claim.vested, claim.given)

    def state(self, name):
        return self.staked.named(name).state(self.day)

    def years(self, name):
        return list(self.staked.named(name).days)

    def standing(self):
        return self.staked.standing(self.day)

    def entries(self):
        return list(self.debts)

    def twin(self):
        other = Field(self.extent[0], self.extent[1], self.extent[2], self.year)
        other.day = self.day
        other.found = dict(self.found)
        other.joints = dict(self.joints)
        other.staked = self.staked.twin()
        other.dug = dict(self.dug)
        other.debts = list(self.debts)
        return other
