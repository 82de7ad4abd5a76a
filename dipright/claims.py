"""Claims: whose they are, what keeps them, and their row of age."""

from dipright.errors import NoClaim
from dipright.ground import has_one, parted
from dipright.years import through


class Claim:
    def __init__(self, owner, ground, days, last):
        self.owner = owner
        self.ground = ground
        self.days = days
        self.last = last
        self.vested = None
        self.given = None

    def piece(self, owner, ground):
        other = Claim(owner, ground, list(self.days), self.last)
        other.vested = self.vested
        return other

    def twin(self):
        other = self.piece(self.owner, self.ground)
        other.given = self.given
        return other

    def state(self, day):
        if self.given is not None:
            return "given"
        if day > self.last:
            return "fallen"
        if self.vested is None:
            return "unvested"
        return "stands"


class Claims:
    def __init__(self, year):
        self.year = year
        self.book = {}
        self.row = []

    def names(self):
        return list(self.book)

    def named(self, name):
        if name not in self.book:
            raise NoClaim("no claim is known by that day")
        return self.book[name]

    def standing(self, day):
        return [name for name in self.row if self.book[name].state(day) == "stands"]

    def stake(self, day, who, ground, outcrops):
        self.book[day] = Claim(who, ground, [day], through(self.year, [day]))
        self.vest(day, day, outcrops)

    def vest(self, name, day, outcrops):
        claim = self.book[name]
        if claim.state(day) == "unvested" and has_one(claim.ground, outcrops):
            claim.vested = day
            self.row.append(name)

    def vest_all(self, day, outcrops):
        # The book's order is that of the days by which claims are known, as several vested on one day are to come.
        for name in self.names():
            self.vest(name, day, outcrops)

    def change(self, day, fact):
        name = fact[1]
        if name not in self.book:
            return "noclaim"
        claim = self.book[name]
        if claim.state(day) in ("given", "fallen"):
            return "ended"
        if fact[0] == "part":
            return self.part(day, fact)
        if fact[0] == "work":
            claim.days.append(day)
            claim.last = through(self.year, claim.days)
        elif fact[0] == "sell":
            claim.owner = fact[2]
        else:
            claim.given = day
        return "good"

    def part(self, day, fact):
        whole = self.book[fact[1]]
        pieces = parted(whole.ground, fact[2], fact[3])
        if pieces is None:
            return "nocut"
        whole.ground = pieces[0]
        self.book[day] = whole.piece(fact[4], pieces[1])
        if whole.vested is not None:
            self.row.insert(self.row.index(fact[1]) + 1, day)
        return "good"

    def twin(self):
        book = {}
        for name in self.book:
            book[name] = self.book[name].twin()
        other = Claims(self.year)
        other.book = book
        other.row = list(self.row)
        return other
