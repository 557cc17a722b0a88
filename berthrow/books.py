"""Quays written as texts, and read again."""

from berthrow.checks import MOST, is_name
from berthrow.errors import NoText
from berthrow.quays import Quay, Round


def written(quay):
    """The text of a quay."""
    rows = [f"{quay.kind()} {quay.size()}\n"]
    for name, wish, _ in quay.all_ships():
        rows.append(f"{name} {wish}\n")
    return "".join(rows)


def read(text):
    """The quay of a text."""
    # All rows are looked at before a ship comes: a fault of the text, wherever
    # it stands, comes ahead of what refuses a ship.
    kind, berths, ships = _parts(text)
    quay = Round(berths) if kind == "round" else Quay(berths)
    for name, wish in ships:
        quay.come(name, wish)
    return quay


def _parts(text):
    """The kind of the quay, its berths, and a list of its ships' names and wishes."""
    if type(text) is not str or not text.endswith("\n"):
        raise NoText("a quay is a text of rows, each with its line end")
    # Not splitlines, which takes other signs for line ends, too.
    pairs = [_pair(row) for row in text[:-1].split("\n")]
    kind, berths = pairs[0]
    ships = pairs[1:]
    if kind != "quay" and kind != "round":
        raise NoText("the first word is quay or round")
    for name, _ in ships:
        if not is_name(name):
            raise NoText("a ship's row begins with its name")
    return kind, berths, ships


def _pair(row):
    """The word and the number of a row."""
    words = row.split(" ")
    if len(words) != 2:
        raise NoText("a row is a word and a number with a blank between them")
    return words[0], _number(words[1])


def _number(word):
    """The number from 1 to 400 that a word writes."""
    # The length comes first: int has a limit of its own on figures.
    if not 1 <= len(word) <= len(str(MOST)) or word[0] == "0":
        raise NoText("a number is written in figures without a nought ahead")
    for sign in word:
        if not "0" <= sign <= "9":
            raise NoText("a number is written in figures without a nought ahead")
    number = int(word)
    if number > MOST:
        raise NoText("a number is from 1 to 400")
    return number
