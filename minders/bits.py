"""Whole numbers whose bits stand for places: bit k is the place k, counted from nought."""


def bit(place):
    return 1 << place


def below(place):
    return (1 << place) - 1


def without(bits, others):
    return bits & ~others
