"""Names as a tree's text tells them."""

from minders.numbers import FIGURES, made_of

LETTERS = "abcdefghijklmnopqrstuvwxyz"
LONGEST = 12


def is_name(text):
    return 0 < len(text) <= LONGEST and made_of(text, LETTERS + FIGURES)
