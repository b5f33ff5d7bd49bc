"""Ranks: how many turnings come ahead of a turning, in the order of Python's tuples."""

from seatturn.errors import NoRank
from seatturn.turnings import require_turning, resting


def rank_of(turning):
    require_turning(turning)
    rank = 0
    free = list(resting(len(turning)))
    for seat in turning:
        place = free.index(seat)
        rank = rank * len(free) + place
        free.pop(place)
    return rank


def places_from_last(count, rank):
    places = []
    left = rank
    # The last guest has one seat to choose, the one ahead of it two, and so on.
    for choices in range(1, count + 1):
        places.append(left % choices)
        left = left // choices
    # Just a rank that is not below the count of all turnings leaves something over.
    if left > 0:
        raise NoRank("there are not so many turnings")
    return places


def turning_at(count, rank):
    if rank < 0:
        raise NoRank("a rank is not below nought")
    places = places_from_last(count, rank)
    free = list(resting(count))
    turning = []
    for place in reversed(places):
        turning.append(free.pop(place))
    return tuple(turning)
