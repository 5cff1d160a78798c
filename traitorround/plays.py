"""What the plays of the ways that are played in a town have in common."""

from traitorround.town import run
from traitorround.words import hand_of


class Play:
    # A hand may stand in the town within a liar or a crasher; what it holds is asked of the hand itself.
    def __init__(self, hands, town, rounds):
        self.hands = hands
        self.sent = run(town, rounds)

    def hand_at(self, thing):
        return self.hands[hand_of(thing, len(self.hands))]

    def letters(self):
        return list(self.sent)

    def ending(self, hand):
        return self.hand_at(hand).ending()

    def endings(self):
        return [hand.ending() for hand in self.hands]
