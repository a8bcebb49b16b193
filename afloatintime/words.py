"""Integers as they stand in texts."""

from afloatintime.values import FIGURES

# Python itself refuses to read a few thousand figures; no text needs nearly so many.
MOST_FIGURES = 900


def integer_of(word):
    """The integer that Python writes as this word; None if there is none."""
    figures = word.removeprefix("-")
    if not 1 <= len(figures) <= MOST_FIGURES:
        return None
    if not all([sign in FIGURES for sign in figures]):
        return None
    if figures[0] == "0" and word != "0":
        return None
    return int(word)
