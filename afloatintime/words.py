"""What stands in texts: integers, and lines of a few words."""

from afloatintime.values import FIGURES, is_name

# Python itself refuses to read a few thousand figures; no text needs nearly so many.
MOST_FIGURES = 900


def integer_of(word):
    """The integer that Python writes as this word; None if there is none."""
    figures = word.removeprefix("-")
    if not 1 <= len(figures) <= MOST_FIGURES:
        return None
    if not all([sign in FIGURES for sign in figures]):
        return None
    if figures[0] == "0" and word != "0":
        return None
    return int(word)


def task_of(line, forms):
    """(word, NAME, integers) of a line that has one of these forms; None for any other value.

    A form is a pair of the word with which the line begins, and of how many integers stand behind the NAME.
    """
    if not isinstance(line, str):
        return None
    words = line.split(" ")
    numbers = [integer_of(word) for word in words[2:]]
    if (words[0], len(numbers)) not in forms or None in numbers:
        return None
    if len(words) < 2 or not is_name(words[1]):
        return None
    return (words[0], words[1], tuple(numbers))
