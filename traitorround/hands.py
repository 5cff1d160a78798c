"""Hands that are asked and told by rounds: plain ones, scribes, liars and crashers."""

from traitorround.roads import road
from traitorround.words import STILL, most


class Hand:
    def __init__(self, number, many, rounds):
        self.number = number
        self.many = many
        self.rounds = rounds

    def say(self, turn):
        return []

    def hear(self, turn, letters):
        pass

    def ending(self):
        return STILL


class Scribe(Hand):
    def __init__(self, number, many, rounds, lines):
        Hand.__init__(self, number, many, rounds)
        self.lines = tuple(lines)
        self.arrived = []

    def say(self, turn):
        return [line[1:] for line in self.lines if line[0] == turn]

    def hear(self, turn, letters):
        self.arrived.extend([(turn, path, word) for path, word in letters])

    def came(self):
        return list(self.arrived)

    def ending(self):
        return most([word for turn, path, word in self.arrived])


class Liar(Hand):
    def __init__(self, inner, lies):
        Hand.__init__(self, inner.number, inner.many, inner.rounds)
        self.inner = inner
        self.lies = tuple(lies)

    def say(self, turn):
        bent = road(self.lies)
        return [(path, to, bent(turn, path, to, word)) for path, to, word in self.inner.say(turn)]

    def hear(self, turn, letters):
        self.inner.hear(turn, letters)

    def ending(self):
        return self.inner.ending()


class Crasher(Hand):
    def __init__(self, inner, last, reached):
        Hand.__init__(self, inner.number, inner.many, inner.rounds)
        self.inner = inner
        self.last = last
        self.reached = tuple(reached)

    def say(self, turn):
        return [(path, to, word if self.reaches(turn, to) else None) for path, to, word in self.inner.say(turn)]

    def reaches(self, turn, to):
        return turn < self.last or turn == self.last and to in self.reached

    def hear(self, turn, letters):
        if turn < self.last:
            self.inner.hear(turn, letters)

    def ending(self):
        return self.inner.ending()


def with_liars(hands, setting):
    return [Liar(hand, setting.lies) if hand.number in setting.liars else hand for hand in hands]
