"""Numbers as a tree's text tells them."""

from minders.errors import NoNumber

FIGURES = "0123456789"
GREATEST = 1000000
MOST_FIGURES = 7


def made_of(text, signs):
    return all([sign in signs for sign in text])


def told_plainly(text):
    # The length comes first: Python's own int refuses some thousand figures with an error of its own.
    if text == "" or len(text) > MOST_FIGURES:
        return False
    if text[0] == "0" and text != "0":
        return False
    return made_of(text, FIGURES)


def number_in(text, most=1000000):
    # No number is greater than GREATEST, even where most is.
    bound = min(most, GREATEST)
    if not told_plainly(text) or int(text) > bound:
        raise NoNumber(f"not a number of at most {bound}")
    return int(text)
