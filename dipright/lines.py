"""Lines: a word, its numbers, and behind some words a fact or a paper: the rows of rolls, and what a desk is told."""

from dipright.errors import BadText
from dipright.notes import read_paper
from dipright.words import read_fact, read_numbers

# How many numbers each word asks.
ASKS = {
    "district": 4,
    "tell": 1,
    "strike": 1,
    "undo": 0,
    "redo": 0,
    "word": 1,
    "title": 4,
    "paper": 4,
    "judge": 4,
    "standing": 1,
    "owes": 3,
}


def read_rest(word, texts):
    if word == "tell":
        return (read_fact(" ".join(texts)),)
    if word == "judge":
        return (read_paper(" ".join(texts)),)
    if texts:
        raise BadText("words more than are asked")
    return ()


def read_line(text, words):
    texts = text.split(" ")
    word = texts[0]
    if word not in words:
        raise BadText("another first word")
    behind = 1 + ASKS[word]
    numbers = read_numbers(texts[1:behind])
    if len(numbers) < ASKS[word]:
        raise BadText("numbers fewer than are asked")
    return (word,) + tuple(numbers) + read_rest(word, texts[behind:])
