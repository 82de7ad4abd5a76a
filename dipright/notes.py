"""Notes: papers as texts, and texts read to papers."""

from dipright.errors import BadText
from dipright.words import read_numbers

WORDS = ("given", "fallen", "unvested", "ground", "younger")
# An other claim is written by its name, a word and a day.
THINGS = 3


def shown_others(others):
    texts = ["others"]
    for other in others:
        texts.extend([str(thing) for thing in other])
    return texts


def shown_paper(paper):
    if paper[0] == "open":
        return " ".join(["open"] + shown_others(paper[1]))
    way = [str(thing) for thing in paper[2]]
    years = [str(year) for year in paper[3]]
    return " ".join(["held", str(paper[1])] + way + ["years"] + years + shown_others(paper[4]))


def parted_at(texts, word):
    if word not in texts:
        raise BadText("a word is missing")
    place = texts.index(word)
    return (texts[:place], texts[place + 1:])


def read_other(texts):
    if texts[1] not in WORDS:
        raise BadText("not a word of an other claim")
    numbers = read_numbers([texts[0], texts[2]])
    return (numbers[0], texts[1], numbers[1])


def read_others(texts):
    if len(texts) % THINGS != 0:
        raise BadText("an other claim asks three things")
    return tuple([read_other(texts[place:place + THINGS]) for place in range(0, len(texts), THINGS)])


def read_way(texts):
    if texts == ["ground"]:
        return ("ground",)
    if texts[:1] != ["dip"] or len(texts) != 3:
        raise BadText("not a way")
    return ("dip",) + tuple(read_numbers(texts[1:]))


def read_held(texts, others):
    parts = parted_at(texts, "years")
    head = parts[0]
    if head[:1] != ["held"] or len(head) < 2:
        raise BadText("not held by a claim")
    claim = read_numbers(head[1:2])[0]
    return ("held", claim, read_way(head[2:]), tuple(read_numbers(parts[1])), others)


def read_paper(text):
    parts = parted_at(text.split(" "), "others")
    others = read_others(parts[1])
    if parts[0] == ["open"]:
        return ("open", others)
    return read_held(parts[0], others)
