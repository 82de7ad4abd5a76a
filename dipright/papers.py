"""Papers of title: the paper told for a spot, and the judging of one that is handed in."""

from dipright.reach import by_dip, reaching
from dipright.title import heirs
from dipright.years import holds

# The places of what a field tells of a claim.
LAST = 2
VESTED = 3
GIVEN = 4


def word_and_day(field, claim, standing_word):
    known = field.claim(claim)
    state = field.state(claim)
    if state == "given":
        return (state, known[GIVEN])
    if state == "fallen":
        return (state, known[LAST] + 1)
    if state == "unvested":
        return (state, claim)
    return (standing_word, known[VESTED])


def others(field, spot, ranks):
    # The first heir holds the spot. Who comes behind him in the same way is younger, all others have the ground alone.
    same_way = [claim for claim, way in ranks if way == ranks[0][1]]
    found = []
    for claim in reaching(field, spot):
        if claim not in same_way[:1]:
            word = "younger" if claim in same_way else "ground"
            found.append((claim,) + word_and_day(field, claim, word))
    return tuple(found)


def told_way(field, spot, heir):
    if heir[1] == "ground":
        return ("ground",)
    return ("dip",) + by_dip(field, heir[0], spot)[0]


def paper(field, spot):
    ranks = heirs(field, spot)
    rest = others(field, spot, ranks)
    if not ranks:
        return ("open", rest)
    claim = ranks[0][0]
    return ("held", claim, told_way(field, spot, ranks[0]), tuple(field.years(claim)), rest)


def good_way(field, spot, heir, way):
    if heir[1] == "ground":
        return way == ("ground",)
    return way[0] == "dip" and way[1:] in by_dip(field, heir[0], spot)


def good_years(field, claim, years):
    known = field.years(claim)
    if not holds(field.term(), years, field.today()) or years[0] != known[0]:
        return False
    return all([year in known for year in years])


def judge(field, spot, paper):
    ranks = heirs(field, spot)
    rest = others(field, spot, ranks)
    if paper[0] == "open":
        return not ranks and paper[1] == rest
    # The first heir alone can have a good paper: for another's he would have to be younger, or not to reach by dip.
    if not ranks or paper[1] != ranks[0][0]:
        return False
    return good_way(field, spot, ranks[0], paper[2]) and good_years(field, paper[1], paper[3]) and paper[4] == rest
