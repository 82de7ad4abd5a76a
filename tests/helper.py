"""What several files of tests need: fields and diaries made of facts, spots, refusals, and random facts."""

import unittest

from dipright.diary import Diary
from dipright.errors import DiprightError, NoDeed
from dipright.field import Field
from dipright.title import title

HUGE = 10 ** 40 - 1  # the greatest number of 40 figures
# All signs that a text may have: from the blank to ~ but the percent sign, and line ends.
SIGNS = [chr(code) for code in range(32, 127) if chr(code) != "%"] + ["\n"]
# A whole number as point 25 writes it.
FIGURES = "(0|[1-9][0-9]*)"


def entered(size, term, facts, day=None):
    """A field with these facts, passed on to the day."""
    field = Field(*size, term)
    for told, fact in facts:
        field.enter(told, fact)
    if day is not None:
        field.pass_to(day)
    return field


def kept(size, term, facts):
    """A diary that was told these facts."""
    diary = Diary(*size, term)
    for day, fact in facts:
        diary.tell(day, fact)
    return diary


def to_redo(diary):
    """The deeds that redo would do, the next one first: asked of a twin, so that the diary stays."""
    twin, deeds = diary.twin(), []
    while True:
        try:
            twin.redo()
        except NoDeed:
            return deeds
        deeds.append(twin.deeds()[-1])


def all_of(diary):
    """All that a diary keeps."""
    return diary.size(), diary.term(), diary.deeds(), diary.facts(), to_redo(diary)


def state_of(field):
    """All that a field tells, but whose each spot is."""
    return (
        field.today(), field.size(), field.term(),
        [(name, field.vein(name), field.joined(name)) for name in field.veins()],
        [(name, field.claim(name), field.state(name), field.years(name)) for name in field.claims()],
        field.standing(), field.entries(),
    )


def titles_of(field):
    return {spot: title(field, spot) for spot in spots_of(field.size())}


def spots_of(size):
    """All spots of a district, rising."""
    return [(x, y, floor) for x in range(size[0]) for y in range(size[1]) for floor in range(size[2] + 1)]


def beyond(size):
    """Triples just beyond each of the six sides, and far away."""
    wide, tall, deep = size
    near = [(-1, 0, 0), (wide, 0, 0), (0, -1, 0), (0, tall, 0), (0, 0, -1), (0, 0, deep + 1)]
    near += [(wide, tall - 1, deep), (wide - 1, tall, deep), (wide - 1, tall - 1, deep + 1)]
    return near + [(HUGE, 0, 0), (0, HUGE, 0), (0, 0, HUGE), (-HUGE, 0, 0), (0, -HUGE, 0), (0, 0, -HUGE)]


def kinds(thing):
    """The kinds of a thing and of all within it."""
    if type(thing) in (tuple, list):
        return type(thing).__name__, tuple(kinds(inner) for inner in thing)
    return type(thing).__name__


class Asked(unittest.TestCase):
    def refused(self, kind, call, *handed):
        with self.assertRaises(kind, msg=repr(handed)) as caught:
            call(*handed)
        self.assertIs(type(caught.exception), kind)
        self.assertIsInstance(caught.exception, DiprightError)


def random_ground(source, size):
    left, right = sorted((source.randrange(size[0]), source.randrange(size[0])))
    top, low = sorted((source.randrange(size[1]), source.randrange(size[1])))
    return left, top, right, low


def random_fact(source, size, veins, claims):
    """A sound fact, mostly of veins and claims that are known."""
    def folk():
        return source.randint(1, 4)

    def cell():
        return source.randrange(size[0]), source.randrange(size[1])

    def known(names):
        return source.choice(sorted(names)) if names and source.random() < 0.95 else source.randint(1, 60)

    words = ["stake"] * 4 + ["vein"] * 3 + ["work"] * 4 + ["part"] * 4 + ["dig"] * 3 + ["sell", "sell", "give", "pay"]
    word = source.choice(words + ["join"] * 3 if size[2] else words)
    if word == "vein":
        steps = tuple(source.randint(0, 4) for floor in range(size[2]))
        return ("vein", steps, tuple(sorted({cell() for k in range(source.randint(1, 4))}, key=lambda one: source.random())))
    return {
        "join": ("join", known(veins), known(veins), source.randint(1, max(1, size[2]))),
        "stake": ("stake", folk()) + random_ground(source, size),
        "work": ("work", known(claims)),
        "sell": ("sell", known(claims), folk()),
        "part": ("part", known(claims), source.randrange(2), source.randint(1, 5), folk()),
        "give": ("give", known(claims)),
        "dig": ("dig", folk()) + cell() + cell() + (source.randint(0, size[2]), source.randint(1, 99)),
        "pay": ("pay", 1 + source.randrange(2), 3 + source.randrange(2), source.randint(1, 99)),
    }[word]


def random_facts(source, size, term, many):
    """Pairs of a day and a fact, in rising days, some days without one."""
    field, facts, day = Field(*size, term), [], 0
    for place in range(many):
        day += source.choice((1, 1, 1, 2, 3))
        facts.append((day, random_fact(source, size, field.veins(), field.claims())))
        field.enter(*facts[-1])
    return facts
