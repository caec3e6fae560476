"""Lists of lights written as a text, and read from one."""

from skypairs.checks import check_lights
from skypairs.errors import BadLights, BadText

LIST_ROW = "list"
FIGURES = "0123456789"
MOST_FIGURES = 3


def written(lists):
    """Tell a list of lists of lights as a text."""
    if not isinstance(lists, list):
        raise BadLights(0)
    for lights in lists:
        check_lights(lights)
    rows = []
    for lights in lists:
        rows.append(LIST_ROW)
        rows.extend([f"{x} {y} {glow}" for x, y, glow in lights])
    return "\n".join(rows)


def read(text):
    """Tell the list of lists of lights that a text was written from."""
    if not isinstance(text, str):
        raise BadText(0)
    lists = [tuple(lights) for lights in lists_in(text)]
    for lights in lists:
        check_lights(lights)
    return lists


def lists_in(text):
    """The lists in a text, as lists of three numbers each, or the refusal of its first bad row."""
    # The empty text would split into one empty row.
    rows = text.split("\n") if text else []
    lists = []
    for at, row in enumerate(rows):
        if row == LIST_ROW:
            lists.append([])
            continue
        words = row.split(" ")
        if not lists or len(words) != 3 or not all([is_written_number(word) for word in words]):
            raise BadText(at)
        lists[-1].append(tuple([int(word) for word in words]))
    return lists


def is_written_number(word):
    """Whether a word is a number as it is written: none can be written in two ways."""
    figures = word[1:] if word.startswith("-") else word
    if not 1 <= len(figures) <= MOST_FIGURES:
        return False
    if not all([figure in FIGURES for figure in figures]):
        return False
    return figures[0] != "0" or word == "0"
