"""The desk: a diary that is told lines, and answers each with a text."""

from dipright.accounts import owes
from dipright.diary import Diary
from dipright.errors import BadFact, BadNumber, BadText, NoDeed, NoFact, OutOfGround, Taken
from dipright.lines import read_line
from dipright.notes import shown_paper
from dipright.papers import judge, paper
from dipright.title import title

WORDS = ("tell", "strike", "undo", "redo", "word", "title", "paper", "judge", "standing", "owes")


def tell_answer(diary, day, fact):
    diary.tell(day, fact)
    word = diary.word(day)
    return f"told {word}"


def strike_answer(diary, day):
    diary.strike(day)
    return f"struck {day}"


def undo_answer(diary):
    diary.undo()
    return "undone"


def redo_answer(diary):
    diary.redo()
    return "redone"


def shown_claim(claim):
    return "open" if claim is None else str(claim)


def shown_claims(claims):
    return " ".join([str(claim) for claim in claims]) if claims else "none"


def field_answer(field, line):
    word = line[0]
    spot = line[2:5]
    if word == "title":
        return shown_claim(title(field, spot))
    if word == "paper":
        return shown_paper(paper(field, spot))
    if word == "judge":
        return "good" if judge(field, spot, line[5]) else "bad"
    if word == "standing":
        return shown_claims(field.standing())
    return str(owes(field, line[2], line[3]))


def answer(diary, line):
    word = line[0]
    if word == "tell":
        return tell_answer(diary, line[1], line[2])
    if word == "strike":
        return strike_answer(diary, line[1])
    if word == "undo":
        return undo_answer(diary)
    if word == "redo":
        return redo_answer(diary)
    if word == "word":
        return diary.word(line[1])
    return field_answer(diary.field(line[1]), line)


class Desk:
    def __init__(self, wide, tall, deep, term):
        self.diary = Diary(wide, tall, deep, term)

    def line(self, text):
        try:
            return answer(self.diary, read_line(text, WORDS))
        except BadText:
            return "refused badtext"
        except BadNumber:
            return "refused badnumber"
        except BadFact:
            return "refused badfact"
        except Taken:
            return "refused taken"
        except NoFact:
            return "refused nofact"
        except NoDeed:
            return "refused nodeed"
        except OutOfGround:
            return "refused outofground"

    def now(self):
        return self.diary.twin()
