"""Rings as texts: their numbers, with one blank between."""

from evenring.errors import BadRing, BadText
from evenring.rings import FARTHEST_NUMBER, Ring

FIGURES = "0123456789"


def written(ring):
    return " ".join([str(number) for number in ring.houses()])


def is_written_number(word):
    if word == "0":
        return True
    figures = word[1:] if word.startswith("-") else word
    # No house's number is longer than the farthest one, and Python won't make a number of very many figures.
    if not 1 <= len(figures) <= len(str(FARTHEST_NUMBER)):
        return False
    return figures[0] != "0" and all([figure in FIGURES for figure in figures])


def read(text):
    if not isinstance(text, str):
        raise BadText("a ring is read from a text")
    words = text.split(" ")
    if not all([is_written_number(word) for word in words]):
        raise BadText("a ring is written as whole numbers with one blank between")
    numbers = [int(word) for word in words]
    try:
        return Ring(numbers)
    except BadRing:
        raise BadText("the numbers are too few or beyond the bounds") from None
