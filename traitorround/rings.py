"""Rings: two copies of all hands wired crosswise, and the three plays that true hands can't tell apart by them."""

from traitorround.errors import NoWay, NoWord
from traitorround.kings import Kings, king_hands
from traitorround.oral import Oral, oral_hands
from traitorround.settings import Setting
from traitorround.town import run
from traitorround.words import count_of, hand_of, word_of

WAYS = ("oral", "kings")
LAST_PLAY = 2

# For each play, by groups: the copy whose hands the group's hands stand for, None where the group lies.
COPIES = ((0, 0, None), (None, 0, 1), (1, None, 1))


class Ring:
    def __init__(self, way, many, bound, sender, one, other):
        self.way = way_of(way)
        self.bound = count_of(bound, 1, 2)
        self.many = count_of(many, 3, 3 * bound)
        self.sender = hand_of(sender, many)
        self.one = word_of(one)
        self.other = word_of(other)
        if other == one:
            raise NoWord(other)
        hands = self.hands_with(one) + self.hands_with(other)
        self.sent = run(hands, hands[0].rounds, self.wires())

    def hands_with(self, word):
        if self.way == "oral":
            return oral_hands(self.many, self.bound + 1, self.sender, word)
        return king_hands(self.many, self.bound, self.sender, word)

    def group_of(self, hand):
        return (hand - self.sender) % self.many % 3

    def groups(self):
        return tuple([self.hands_in(group) for group in range(3)])

    def hands_in(self, group):
        return tuple([hand for hand in range(self.many) if self.group_of(hand) == group])

    def wires(self):
        return [self.wires_at(place) for place in range(2 * self.many)]

    def wires_at(self, place):
        return [self.place_for(place, reader) for reader in range(self.many)]

    def place_for(self, place, reader):
        double = place // self.many
        apart = sorted([self.group_of(place % self.many), self.group_of(reader)])
        if apart == [1, 2]:
            double = 1 - double
        return double * self.many + reader

    def letters(self):
        return list(self.sent)

    def setting_of(self, play):
        copies = COPIES[count_of(play, 0, LAST_PLAY)]
        liars = self.hands_in(copies.index(None))
        standing = self.standing_in(copies)
        lies = []
        for turn, path, place, word in self.sent:
            if place in standing and path[-1] in liars:
                lies.append((turn, path, standing[place], word))
        return Setting(self.many, self.bound, liars, lies)

    def standing_in(self, copies):
        standing = {}
        for hand in range(self.many):
            double = copies[self.group_of(hand)]
            if double is not None:
                standing[double * self.many + hand] = hand
        return standing

    def word_in(self, play):
        return self.other if count_of(play, 0, LAST_PLAY) == 2 else self.one

    def played(self, play):
        return play_of(self.way, self.setting_of(play), self.sender, self.word_in(play))

    def parted(self):
        found = [self.unlike_in(play) for play in range(LAST_PLAY + 1)]
        return [told for told in found if told is not None][0]

    def unlike_in(self, play):
        trues = self.setting_of(play).trues()
        endings = self.played(play).endings()
        unlike = [hand for hand in trues if endings[hand] != endings[trues[0]]]
        return (play, trues[0], unlike[0]) if unlike else None


def way_of(thing):
    if not isinstance(thing, str) or thing not in WAYS:
        raise NoWay(thing)
    return thing


def play_of(way, setting, sender, word):
    return Oral(setting, sender, word) if way == "oral" else Kings(setting, sender, word)
