"""Title: the heirs of a spot, and to whom it belongs."""

from dipright.ground import has_one, inside
from dipright.reach import covers, ground_of, outcrops
from dipright.veins import columns_at, columns_by_spot, ore


def standing_grounds(field):
    return [(claim, ground_of(field, claim)) for claim in field.standing()]


def ranked(grounds, heads, spot):
    first = []
    behind = []
    for claim, ground in grounds:
        if has_one(ground, heads):
            first.append((claim, "dip"))
        elif covers(ground, spot):
            behind.append((claim, "ground"))
    return first + behind


def heirs(field, spot):
    heads = outcrops(field, columns_at(field, spot))
    return ranked(standing_grounds(field), heads, spot)


def first_claim(ranks):
    return ranks[0][0] if ranks else None


def title(field, spot):
    return first_claim(heirs(field, spot))


def titles(field, spots):
    # All spots are asked at once, so what is the same for each of them is found once.
    grounds = standing_grounds(field)
    met = columns_by_spot(field)
    return [first_claim(ranked(grounds, outcrops(field, met.get(spot, [])), spot)) for spot in spots]


def owner(field, spot):
    claim = title(field, spot)
    return None if claim is None else field.claim(claim)[0]


def over(field, cell):
    for claim, ground in standing_grounds(field):
        if inside(ground, cell):
            return claim
    return None


def holdings(field):
    held = titles(field, ore(field))
    return [(claim, held.count(claim)) for claim in field.standing()]


def open_ore(field):
    spots = ore(field)
    return [spot for spot, claim in zip(spots, titles(field, spots)) if claim is None]
