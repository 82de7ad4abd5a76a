"""Spells: whose a spot was, and who had a claim, day by day; and what differs between two diaries."""

from dipright.field import Field, check_day
from dipright.title import title, titles


def day_by_day(diary, last, ask):
    # One field that goes on from day to day spares a new one for each of them.
    size = diary.size()
    field = Field(size[0], size[1], size[2], diary.term())
    kept = dict(diary.facts())
    answers = []
    for day in range(1, last + 1):
        if day in kept:
            field.enter(day, kept[day])
        else:
            field.pass_to(day)
        answers.append(ask(field))
    return answers


def stretches(answers):
    found = []
    for day, answer in enumerate(answers, start=1):
        if found and found[-1][2] == answer:
            found[-1] = (found[-1][0], day, answer)
        else:
            found.append((day, day, answer))
    return found


def spells(diary, spot, last):
    check_day(last)
    return stretches(day_by_day(diary, last, lambda field: title(field, spot)))


def holder(field, claim):
    return field.claim(claim)[0] if claim in field.standing() else None


def tenures(diary, claim, last):
    check_day(last)
    found = stretches(day_by_day(diary, last, lambda field: holder(field, claim)))
    return [stretch for stretch in found if stretch[2] is not None]


def all_spots(size):
    found = []
    for x in range(size[0]):
        for y in range(size[1]):
            found.extend([(x, y, floor) for floor in range(size[2] + 1)])
    return found


def differs(one, other, day):
    spots = all_spots(one.size())
    first = titles(one.field(day), spots)
    second = titles(other.field(day), spots)
    return [row for row in zip(spots, first, second) if row[1] != row[2]]
