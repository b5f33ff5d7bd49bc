"""Reaching: a shortest word over some turns that leads to a turning, or all that they lead to.

A word is a list of places in the list of turns; it leads to the turning that
is done by the turns at these places, one behind the other.
"""

from seatturn.turnings import joined, require_one_length, require_turning, resting


def require_turns(turns, goal):
    require_turning(goal)
    for turn in turns:
        require_turning(turn)
    # Only now, since BadTurning goes ahead of OtherLength, whichever turn comes first.
    for turn in turns:
        require_one_length(turn, goal)


def lengthened(words, ends, turns):
    newer = []
    for end in ends:
        for place, turn in enumerate(turns):
            further = joined(end, turn)
            if further not in words:
                words[further] = words[end] + [place]
                newer.append(further)
    return newer


def shortest_words(turns, goal):
    rest = resting(len(goal))
    words = {rest: []}
    ends = [rest]
    # All words of one length come before any longer one, so the first to lead somewhere is a shortest.
    while goal not in words and len(ends) > 0:
        ends = lengthened(words, ends, turns)
    return words


def reached(turns, goal):
    require_turns(turns, goal)
    words = shortest_words(turns, goal)
    if goal in words:
        return ("word", words[goal])
    return ("apart", sorted(words))
