"""Writing: whole numbers and facts as texts, and texts read to them."""

from dipright.errors import BadText
from dipright.facts import ASKS

FIGURES = "0123456789"
NO_STEPS = "-"


def all_figures(text):
    return text != "" and all([sign in FIGURES for sign in text])


def number(text):
    if not all_figures(text):
        return None
    if text[0] == "0" and text != "0":
        return None
    return int(text)


def read_numbers(texts):
    numbers = [number(text) for text in texts]
    if None in numbers:
        raise BadText("not a whole number")
    return numbers


def shown_steps(steps):
    if not steps:
        return NO_STEPS
    return "".join([str(step) for step in steps])


def shown_cell(cell):
    x = cell[0]
    y = cell[1]
    return f"{x},{y}"


def shown(fact):
    if fact[0] == "vein":
        return " ".join(["vein", shown_steps(fact[1])] + [shown_cell(cell) for cell in fact[2]])
    return " ".join([str(thing) for thing in fact])


def read_steps(text):
    if text == NO_STEPS:
        return ()
    if not all_figures(text):
        raise BadText("steps that are no figures")
    return tuple([int(figure) for figure in text])


def read_cell(text):
    numbers = read_numbers(text.split(","))
    if len(numbers) != 2:
        raise BadText("not a cell")
    return tuple(numbers)


def read_vein(texts):
    if len(texts) < 2:
        raise BadText("a vein without a cell")
    return ("vein", read_steps(texts[0]), tuple([read_cell(text) for text in texts[1:]]))


def read_fact(text):
    texts = text.split(" ")
    word = texts[0]
    if word == "vein":
        return read_vein(texts[1:])
    if word not in ASKS:
        raise BadText("not a word of a fact")
    numbers = read_numbers(texts[1:])
    if len(numbers) != len(ASKS[word]):
        raise BadText("numbers more or fewer than the word asks")
    return (word,) + tuple(numbers)
