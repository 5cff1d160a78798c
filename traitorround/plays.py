"""What the plays of the oral way and of kings have in common: a town of hands, some of which lie."""

from traitorround.hands import with_liars
from traitorround.town import run
from traitorround.words import hand_of


class TownPlay:
    def __init__(self, setting, hands, rounds):
        self.hands = hands
        self.sent = run(with_liars(hands, setting), rounds)

    def hand_at(self, thing):
        return self.hands[hand_of(thing, len(self.hands))]

    def letters(self):
        return list(self.sent)

    def ending(self, hand):
        return self.hand_at(hand).ending()

    def endings(self):
        return [hand.ending() for hand in self.hands]
