"""The forms of a child's row: its words, read as a shape."""

from minders.errors import NoNumber
from minders.names import is_name
from minders.numbers import number_in
from minders.shapes import AllMinder, Faller, Leaf, Minder, RestMinder, Steady

KEEPS = ("always", "fallen", "never")
FEWEST_WORDS = 6


def leaf_in(words):
    name = words[-1]
    keep = words[1]
    grace = number_in(words[2])
    slow = number_in(words[3])
    work = words[4:-1]
    if work == ["idle"]:
        return Leaf(name, keep, grace, slow)
    if len(work) != 2:
        return None
    many = number_in(work[1])
    if work[0] == "steady":
        return Steady(name, keep, many, grace, slow)
    if work[0] == "falls":
        return Faller(name, keep, many, grace, slow)
    return None


def minder_in(words):
    name = words[-1]
    keep = words[1]
    way = words[2]
    most = number_in(words[3])
    span = number_in(words[4])
    if len(words) != FEWEST_WORDS or span == 0:
        return None
    if way == "one":
        return Minder(name, keep, most, span)
    if way == "all":
        return AllMinder(name, keep, most, span)
    if way == "rest":
        return RestMinder(name, keep, most, span)
    return None


def by_first_word(words):
    if words[0] == "leaf":
        return leaf_in(words)
    if words[0] == "minder":
        return minder_in(words)
    return None


# The shape that the words tell, or None: only the reader of the whole text knows the row's number.
def child_in(words):
    if len(words) < FEWEST_WORDS or words[1] not in KEEPS or not is_name(words[-1]):
        return None
    try:
        return by_first_word(words)
    except NoNumber:
        return None
