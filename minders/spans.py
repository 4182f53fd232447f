"""Ends answered a short while ago, and whether one more is too many."""


def recent(falls, clock, span):
    # They stand in any order, so each is asked: nothing is told by where it stands.
    return [turn for turn in falls if clock - turn < span]


def too_many(falls, clock, span, most):
    # The end at the clock is counted with those ahead of it.
    return len(recent(falls, clock, span)) + 1 > most
