"""The diary: facts kept by their days, told in any order, struck out, taken back and done once more."""

from dipright.errors import BadFact, NoDeed, NoFact, Taken
from dipright.facts import sound
from dipright.field import Field, check_day, check_district


class Diary:
    def __init__(self, wide, tall, deep, term):
        check_district(wide, tall, deep, term)
        self.extent = (wide, tall, deep)
        self.year = term
        self.kept = {}
        # A strike stands here with the fact that it struck out, so that it can be taken back.
        self.done = []
        self.back = []

    def tell(self, day, fact):
        check_day(day)
        if not sound(self.extent, fact):
            raise BadFact("not sound for this district")
        if day in self.kept:
            raise Taken("a fact is kept for that day")
        self.perform(("tell", day, fact))
        self.back = []

    def strike(self, day):
        self.perform(("strike", day, self.fact_on(day)))
        self.back = []

    def undo(self):
        if not self.done:
            raise NoDeed("no deed is done")
        deed = self.done.pop()
        self.put(deed, deed[0] == "strike")
        self.back.append(deed)

    def redo(self):
        if not self.back:
            raise NoDeed("no deed is taken back")
        self.perform(self.back.pop())

    def perform(self, deed):
        self.put(deed, deed[0] == "tell")
        self.done.append(deed)

    def put(self, deed, there):
        if there:
            self.kept[deed[1]] = deed[2]
        else:
            self.kept.pop(deed[1])

    def fact_on(self, day):
        check_day(day)
        if day not in self.kept:
            raise NoFact("no fact is kept for that day")
        return self.kept[day]

    def deeds(self):
        return [deed if deed[0] == "tell" else deed[:2] for deed in self.done]

    def facts(self):
        return [(day, self.kept[day]) for day in sorted(self.kept)]

    def size(self):
        return self.extent

    def term(self):
        return self.year

    def word(self, day):
        fact = self.fact_on(day)
        return self.entered(day - 1).enter(day, fact)

    def field(self, day):
        check_day(day)
        field = self.entered(day)
        field.pass_to(day)
        return field

    def entered(self, last):
        field = Field(self.extent[0], self.extent[1], self.extent[2], self.year)
        for day, fact in self.facts():
            if day <= last:
                field.enter(day, fact)
        return field

    def known(self, many):
        if not 0 <= many <= len(self.done):
            raise NoDeed("not so many deeds are done")
        other = Diary(self.extent[0], self.extent[1], self.extent[2], self.year)
        for deed in self.done[:many]:
            other.perform(deed)
        return other

    def twin(self):
        other = self.known(len(self.done))
        other.back = list(self.back)
        return other
