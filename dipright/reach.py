"""Reach: which claims reach a spot by dip, and which have the ground over it."""

from dipright.errors import OutOfGround
from dipright.ground import has_one, in_ground, inside
from dipright.veins import columns_at


def ground_of(field, claim):
    return field.claim(claim)[1]


def outcrop(field, pair):
    return field.vein(pair[0])[1][pair[1]]


def outcrops(field, pairs):
    return [outcrop(field, pair) for pair in pairs]


def covers(ground, spot):
    return inside(ground, (spot[0], spot[1]))


def by_dip(field, claim, spot):
    ground = ground_of(field, claim)
    return [pair for pair in columns_at(field, spot) if inside(ground, outcrop(field, pair))]


def has_ground(field, claim, spot):
    ground = ground_of(field, claim)
    if not in_ground(field.size(), spot):
        raise OutOfGround("not a spot of the district")
    return covers(ground, spot)


def reaching(field, spot):
    heads = outcrops(field, columns_at(field, spot))
    found = []
    for claim in field.claims():
        ground = ground_of(field, claim)
        if has_one(ground, heads) or covers(ground, spot):
            found.append(claim)
    return found
