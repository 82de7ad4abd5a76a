"""Veins: where their columns are, with joins, and the ore known."""

from dipright.errors import OutOfGround
from dipright.ground import in_ground

# By a step from one floor to the next: how far x and y go on.
MOVES = ((0, 0), (1, 0), (-1, 0), (0, 1), (0, -1))


def own_course(size, cell, steps):
    course = [cell]
    for step in steps:
        move = MOVES[step]
        below = (course[-1][0] + move[0], course[-1][1] + move[1])
        if not in_ground(size, (below[0], below[1], 0)):
            break
        course.append(below)
    return course


def own_courses(field, vein):
    size = field.size()
    steps = field.vein(vein)[0]
    found = []
    for cell in field.vein(vein)[1]:
        course = own_course(size, cell, steps)
        found.append(course + [None] * (size[2] + 1 - len(course)))
    return found


def with_join(own, other, floor):
    below = [course[floor:] for course in other]
    nowhere = [[None] * len(course[floor:]) for course in own[len(other):]]
    return [course[:floor] + rest for course, rest in zip(own, below + nowhere)]


def traced(field, veins):
    known = {}
    for vein in veins:
        known[vein] = own_courses(field, vein)
        joint = field.joined(vein)
        # A vein joins only one that was found earlier: in rising order that one's courses are known by now.
        if joint is not None:
            known[vein] = with_join(known[vein], known[joint[0]], joint[1])
    return known


def joined_veins(field, vein):
    chain = [vein]
    joint = field.joined(vein)
    while joint is not None:
        chain.append(joint[0])
        joint = field.joined(joint[0])
    return sorted(chain)


def courses(field, vein):
    return traced(field, joined_veins(field, vein))[vein]


def climbed(size, steps, spot):
    x = spot[0]
    y = spot[1]
    for step in reversed(steps[:spot[2]]):
        x = x - MOVES[step][0]
        y = y - MOVES[step][1]
        if not in_ground(size, (x, y, 0)):
            return None
    return (x, y)


def met_columns(field, vein, spot, met):
    found = field.vein(vein)
    joint = field.joined(vein)
    if joint is not None and joint[1] <= spot[2]:
        return [column for column in met[joint[0]] if column < len(found[1])]
    outcrop = climbed(field.size(), found[0], spot)
    return [column for column, cell in enumerate(found[1]) if cell == outcrop]


def columns_at(field, spot):
    if not in_ground(field.size(), spot):
        raise OutOfGround("not a spot of the district")
    # One spot is asked far more often than all are: to climb from it spares the courses of all columns.
    met = {}
    pairs = []
    for vein in field.veins():
        met[vein] = met_columns(field, vein, spot, met)
        pairs.extend([(vein, column) for column in met[vein]])
    return pairs


def columns_by_spot(field):
    known = traced(field, field.veins())
    met = {}
    for vein in known:
        for column, course in enumerate(known[vein]):
            for floor, cell in enumerate(course):
                if cell is not None:
                    met.setdefault((cell[0], cell[1], floor), []).append((vein, column))
    return met


def ore(field):
    return sorted(columns_by_spot(field))
