"""Whole numbers as collections of places: a place is in the number if its bit is set."""


def places_in(bits):
    """The places in the number, ascending."""
    places = []
    while bits:
        low = bits & -bits
        places.append(low.bit_length() - 1)
        bits ^= low
    return places


def how_many(bits):
    """The number of the places in the number."""
    return f"{bits:b}".count("1")


def union(many):
    """The number with the places of all of these."""
    whole = 0
    for bits in many:
        whole |= bits
    return whole


def is_within(bits, others):
    """Tell whether all places of the one are places of the other."""
    return bits & ~others == 0
