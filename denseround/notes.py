"""Yards as texts."""

from denseround.errors import BadText
from denseround.yards import Yard

FIGURES = "0123456789"


def written(yard):
    """Tell the yard's text."""
    ties = [f"tie {one} {other}" for one, other in yard.ties()]
    return "\n".join([f"yard {yard.many()}", *ties])


def is_number(word):
    """Tell whether the word is one or two figures, with no 0 ahead of another one."""
    if len(word) == 2 and word[0] == "0":
        return False
    return len(word) in (1, 2) and all(sign in FIGURES for sign in word)


def numbers_of(row, at, name, many):
    """Tell the numbers behind the row's name; refuse with BadText what is no such row."""
    first, *words = row.split(" ")
    if first != name or len(words) != many or not all(is_number(word) for word in words):
        raise BadText(at)
    return [int(word) for word in words]


def read(text):
    """Tell the yard that the text tells; refuse with BadText, else with BadYard."""
    first, *others = text.split("\n")
    numbers = numbers_of(first, 0, "yard", 1)
    ties = [tuple(numbers_of(row, at, "tie", 2)) for at, row in enumerate(others, start=1)]
    return Yard(numbers[0], ties)
