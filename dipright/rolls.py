"""Rolls: a diary written as a text, and a text read to a diary."""

from dipright.diary import Diary
from dipright.errors import BadText, DiprightError
from dipright.lines import read_line
from dipright.words import shown


def shown_deed(deed):
    texts = [deed[0], str(deed[1])]
    if deed[0] == "tell":
        texts.append(shown(deed[2]))
    return " ".join(texts)


def written(diary):
    numbers = [str(number) for number in diary.size() + (diary.term(),)]
    rows = [" ".join(["district"] + numbers)]
    rows.extend([shown_deed(deed) for deed in diary.deeds()])
    return "\n".join(rows)


def told_deed(diary, deed):
    if deed[0] == "tell":
        diary.tell(deed[1], deed[2])
    else:
        diary.strike(deed[1])


def told_rows(rows):
    numbers = read_line(rows[0], ("district",))[1:]
    diary = Diary(numbers[0], numbers[1], numbers[2], numbers[3])
    for row in rows[1:]:
        told_deed(diary, read_line(row, ("tell", "strike")))
    return diary


def read_roll(text):
    try:
        return told_rows(text.split("\n"))
    except DiprightError as e:
        raise BadText("not the roll of a diary") from e
