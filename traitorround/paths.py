"""Paths of hands, and how many letters the oral way writes along them."""

from traitorround.words import is_hand

LONGEST = 7


def is_path(thing, many):
    if not isinstance(thing, tuple) or not 1 <= len(thing) <= LONGEST:
        return False
    # Asked ahead of the doubles, since not everything that is no hand fits into a set.
    if not all([is_hand(hand, many) for hand in thing]):
        return False
    return len(set(thing)) == len(thing)


def paths(many, sender, length, without=None):
    if not 1 <= length <= LONGEST or not is_hand(sender, many) or sender == without:
        return []
    found = [(sender,)]
    for step in range(1, length):
        found = lengthened(found, many, without)
    return found


def lengthened(shorter, many, without):
    # The shorter ones come rising, and each is followed by rising hands: so nothing need be sorted.
    longer = []
    for path in shorter:
        longer.extend([path + (hand,) for hand in range(many) if hand != without and hand not in path])
    return longer


def letters_due(many, rounds):
    due = 0
    term = 1
    for turn in range(1, rounds + 1):
        term = term * max(many - turn, 0)
        due = due + term
    return due
