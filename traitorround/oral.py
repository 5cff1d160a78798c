"""The oral way: what each hand holds for each path is written on, and a tree of it tells the hand's end."""

from traitorround.hands import Hand, with_liars
from traitorround.paths import paths
from traitorround.plays import Play
from traitorround.settings import rounds_of
from traitorround.trees import grown
from traitorround.words import STILL, hand_of, word_of


class OralHand(Hand):
    def __init__(self, number, many, rounds, sender, word):
        Hand.__init__(self, number, many, rounds)
        self.sender = sender
        self.word = word
        self.notes = {}

    def say(self, turn):
        if turn == 1:
            return self.letters_with((), self.word) if self.number == self.sender else []
        letters = []
        for path in paths(self.many, self.sender, turn - 1, self.number):
            letters.extend(self.letters_with(path, self.notes.get(path, STILL)))
        return letters

    def letters_with(self, path, word):
        longer = path + (self.number,)
        return [(longer, to, word) for to in range(self.many) if to not in longer]

    def hear(self, turn, letters):
        for path, word in letters:
            self.notes.setdefault(path, STILL if word is None else word)

    def tree(self):
        if self.number == self.sender:
            return ((self.sender,), self.word, self.word, ())
        return grown(self.many, self.rounds, self.number, (self.sender,), self.notes)

    def ending(self):
        return self.tree()[2]


class Oral(Play):
    def __init__(self, setting, sender, word, rounds=None):
        hand_of(sender, setting.many)
        word_of(word)
        turns = rounds_of(rounds, setting.bound)
        hands = oral_hands(setting.many, turns, sender, word)
        Play.__init__(self, hands, with_liars(hands, setting), turns)

    def tree(self, hand):
        return self.hand_at(hand).tree()


def oral_hands(many, rounds, sender, word):
    return [OralHand(hand, many, rounds, sender, word if hand == sender else None) for hand in range(many)]
