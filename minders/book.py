"""A book's entries, shown as texts and seen again."""

from minders.names import is_name
from minders.numbers import FIGURES, made_of

WORDS = ("begun", "told", "done", "fallen", "ended", "cut", "gave up", "answers", "gives up")
WORD_SIGNS = 8
MOST_TURN_FIGURES = 60


def shown(entry, width=4):
    turn = str(entry[0]).zfill(width)
    word = entry[1].rjust(WORD_SIGNS)
    name = entry[2]
    return f"{turn} {word} {name}"


def turn_in(figures):
    # The noughts ahead go first: Python's own int refuses some thousand figures, noughts among them.
    behind = figures.lstrip("0")
    if figures == "" or len(behind) > MOST_TURN_FIGURES or not made_of(behind, FIGURES):
        return None
    return int("0" + behind)


def seen(text):
    # Words have blanks within them, so behind the turn the signs are counted, not parted.
    parts = text.partition(" ")
    turn = turn_in(parts[0])
    rest = parts[2]
    word = rest[:WORD_SIGNS].lstrip(" ")
    name = rest[WORD_SIGNS + 1:]
    gap = rest[WORD_SIGNS:WORD_SIGNS + 1]
    if turn is None or word not in WORDS or gap != " " or not is_name(name):
        return None
    return (turn, word, name)
