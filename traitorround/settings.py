"""Settings: how many hands there are, the bound, which of the hands lie, and what they lie."""

from traitorround.errors import NoLetter
from traitorround.paths import is_path
from traitorround.words import count_of, hand_of, is_hand, is_whole, is_word

MOST_HANDS = 7
GREATEST_BOUND = 5
LAST_TURN = 30
MOST_ROUNDS = 8


class Setting:
    def __init__(self, many, bound, liars=None, lies=None):
        self.many = count_of(many, 1, MOST_HANDS)
        self.bound = count_of(bound, 0, GREATEST_BOUND)
        self.liars = lying_among(many, liars)
        self.lies = lies_among(many, lies)

    def trues(self):
        return [hand for hand in range(self.many) if hand not in self.liars]


def lying_among(many, liars):
    if liars is None:
        return ()
    # Each is looked at ahead of the doubles, since not everything that is no hand fits into a set.
    told = [hand_of(thing, many) for thing in liars]
    return tuple(sorted(set(told)))


def lies_among(many, lies):
    if lies is None:
        return ()
    for place, thing in enumerate(lies):
        if not is_lie(thing, many):
            raise NoLetter(place)
    return tuple(lies)


def is_lie(thing, many):
    if not isinstance(thing, tuple) or len(thing) != 4:
        return False
    if not is_turn(thing[0]) or not is_path(thing[1], many):
        return False
    if not is_hand(thing[2], many) or thing[2] in thing[1]:
        return False
    return thing[3] is None or is_word(thing[3])


def is_turn(thing):
    return is_whole(thing) and 1 <= thing <= LAST_TURN


def rounds_of(told, bound):
    return bound + 1 if told is None else count_of(told, 1, MOST_ROUNDS)
