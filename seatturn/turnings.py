"""Turnings: put one behind the other, undone, and done to a row of guests.

A turning of n seats is a tuple of the numbers from nought to n - 1, each of
them once; the guest of the seat k goes to the seat that stands at place k.
"""

from seatturn.errors import BadTurning, OtherLength


def resting(count):
    return tuple(range(count))


def require_turning(turning):
    if tuple(sorted(turning)) != resting(len(turning)):
        # The numbers are left out of the words: Python won't write out very long ones.
        raise BadTurning("not each seat's number stands once in the turning")


def require_one_length(one, two):
    if len(one) != len(two):
        raise OtherLength("what goes together is not of one length")


def joined(one, two):
    # Both are looked at before their lengths: BadTurning goes ahead of OtherLength.
    require_turning(one)
    require_turning(two)
    require_one_length(one, two)
    return tuple([two[seat] for seat in one])


def turned_back(turning):
    require_turning(turning)
    back = [0] * len(turning)
    for start, end in enumerate(turning):
        back[end] = start
    return tuple(back)


def seated(turning, row):
    # Undone first, so that BadTurning goes ahead of OtherLength here too.
    back = turned_back(turning)
    require_one_length(turning, row)
    return [row[start] for start in back]
