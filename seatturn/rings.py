"""Rings: a turning told by whose guest goes to whose seat, and how often it goes round.

A ring is a list of two seats or more, all different; the guest of each goes
to the next one's seat, the last one's to the first one's.
"""

from seatturn.errors import BadRings
from seatturn.turnings import require_turning, resting


def ring_from(turning, first):
    ring = [first]
    seat = turning[first]
    while seat != first:
        ring.append(seat)
        seat = turning[seat]
    return ring


def rings_of(turning):
    require_turning(turning)
    rings = []
    told = {}
    # Going up the seats, each ring is met at its least one, and in the order that is asked for.
    for first, end in enumerate(turning):
        if end != first and first not in told:
            ring = ring_from(turning, first)
            rings.append(ring)
            for seat in ring:
                told[seat] = True
    return rings


def require_rings(count, rings):
    taken = {}
    for ring in rings:
        if len(ring) < 2:
            raise BadRings("a ring has fewer than two seats")
        for seat in ring:
            if seat < 0 or seat >= count:
                # The number is left out of the words: Python won't write out very long ones.
                raise BadRings("a number in the rings is none of a seat")
            if seat in taken:
                raise BadRings("a seat stands twice in all the rings")
            taken[seat] = True


def turning_of(count, rings):
    # Looked at first, so that bad rings are refused however many seats there are to fill.
    require_rings(count, rings)
    turning = list(resting(count))
    for ring in rings:
        for place, seat in enumerate(ring):
            turning[seat] = ring[(place + 1) % len(ring)]
    return tuple(turning)


def greatest_divisor(one, two):
    while two > 0:
        left = one % two
        one = two
        two = left
    return one


def times_round(turning):
    times = 1
    # Every ring must come round a whole number of times, so the least common multiple is sought.
    for ring in rings_of(turning):
        times = times // greatest_divisor(times, len(ring)) * len(ring)
    return times
