"""Floods: hands that tell one another all words they know, and some of which crash, though none lies."""

from traitorround.errors import NoCount, NoLetter
from traitorround.hands import Crasher, Hand
from traitorround.plays import Play
from traitorround.settings import GREATEST_BOUND, MOST_HANDS, is_turn, rounds_of
from traitorround.words import STILL, count_of, is_hand, word_of


def crashes_of(many, crashes):
    told = []
    for place, thing in enumerate(crashes):
        if not is_crash(thing, many) or thing[0] in [crash[0] for crash in told]:
            raise NoLetter(place)
        told.append(thing)
    return told


def is_crash(thing, many):
    if not isinstance(thing, tuple) or len(thing) != 3:
        return False
    if not is_hand(thing[0], many) or not is_turn(thing[1]):
        return False
    return isinstance(thing[2], tuple) and all([is_hand(hand, many) for hand in thing[2]])


class FloodHand(Hand):
    def __init__(self, number, many, rounds, word):
        Hand.__init__(self, number, many, rounds)
        self.wordbook = {word: True}
        self.hearings = []
        self.end = None

    def say(self, turn):
        words = tuple(self.known())
        return [((self.number,), to, words) for to in range(self.many) if to != self.number]

    def hear(self, turn, letters):
        before = self.hearings[-1] if self.hearings else tuple(range(self.many))
        writers = [self.number]
        for path, words in letters:
            if words is not None:
                writers.append(path[-1])
                self.learn(words)
        self.hearings.append(tuple(sorted(set(writers))))
        if self.end is None and (self.hearings[-1] == before or turn >= self.rounds):
            self.end = (turn, min(self.known()))

    def learn(self, words):
        for word in words:
            self.wordbook[word] = True

    def known(self):
        return sorted(self.wordbook)

    def heard_by(self):
        return list(self.hearings)

    def ended(self):
        return self.end

    def ending(self):
        return STILL if self.end is None else self.end[1]


class Floods(Play):
    def __init__(self, many, bound, words, crashes=None, rounds=None):
        count_of(many, 1, MOST_HANDS)
        count_of(bound, 0, GREATEST_BOUND)
        if len(words) != many:
            raise NoCount(len(words))
        begun = [word_of(thing) for thing in words]
        told = [] if crashes is None else crashes_of(many, crashes)
        turns = rounds_of(rounds, bound)
        hands = [FloodHand(hand, many, turns, word) for hand, word in enumerate(begun)]
        Play.__init__(self, hands, with_crashers(hands, told), turns)

    def known(self, hand):
        return self.hand_at(hand).known()

    def heard_by(self, hand):
        return self.hand_at(hand).heard_by()

    def ended(self, hand):
        return self.hand_at(hand).ended()


def with_crashers(hands, crashes):
    town = list(hands)
    for hand, turn, reached in crashes:
        town[hand] = Crasher(hands[hand], turn, reached)
    return town
